import unittest

from datedlines import errors
from datedlines.errors import Refused

NAMES = """BadSize BadBirth BadDay TooFew BadRow BadDeed BadCount BadLeaf BadSet BadMoment BadNames Unlike TooMany
BadDates BadDepth NotWhole BadShape BadWeave BadFamily BadTable NotLevel BadText BadWord NothingToUndo
NothingToRedo""".split()


class ErrorsTest(unittest.TestCase):
    def test_each_stands_under_refused_alone(self):
        self.assertEqual(Refused.__bases__, (ValueError,))
        for name in NAMES:
            self.assertEqual(getattr(errors, name).__bases__, (Refused,), name)

    def test_each_keeps_what(self):
        for name in NAMES + ["Refused"]:
            for what in (0, -3, 10 ** 30, (1, 2), (), "word"):
                self.assertEqual(getattr(errors, name)(what).what, what)
            self.assertEqual(getattr(errors, name)(what=(4,)).what, (4,))

    def test_each_is_made_from_one_argument(self):
        for name in NAMES + ["Refused"]:
            with self.assertRaises(TypeError):
                getattr(errors, name)()
            with self.assertRaises(TypeError):
                getattr(errors, name)(1, 2)

    def test_raised_and_caught(self):
        for name in NAMES:
            with self.assertRaises(ValueError) as caught:
                raise getattr(errors, name)(5)
            self.assertEqual(caught.exception.what, 5)


if __name__ == "__main__":
    unittest.main()
