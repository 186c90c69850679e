import unittest
from math import factorial

from datedlines.calendarlooks import plain
from datedlines.errors import BadShape, NotWhole
from datedlines.histories import histories
from datedlines.hooks import hooks, plain_histories
from datedlines.numbers import size
from support import DEEP, LONG, NO_WOODS, ODD, Case, all_woods


def joints_of(thing):
    """All joints at or beneath a shape, or of a wood's shapes."""
    if not isinstance(thing, tuple):
        return []
    return [thing] + [joint for part in thing for joint in joints_of(part)]


class HooksTest(Case):
    def test_hooks(self):
        self.assertEqual(hooks((((0, 1), (2, 3)),)), 3)
        self.assertEqual(hooks(((((0, 1), 2), 3),)), 6)
        self.assertEqual(hooks((0,)), 1)
        self.assertEqual(hooks(tuple(range(12))), 1)
        self.assertEqual(hooks((tuple(range(12)),)), 1)
        self.assertEqual(hooks((((0, 1), 2), (3, (4, 5)))), 4)

    def test_small_woods(self):
        for n in range(1, 6):
            for wood in all_woods(n):
                product = 1
                for shape in wood:
                    for joint in joints_of(shape):
                        product *= len(joints_of(joint))
                self.assertEqual(hooks(wood), product)

    def test_twelve_leaves(self):
        chain = 11
        for x in range(10, -1, -1):
            chain = (x, chain)
        self.assertEqual(hooks((chain,)), factorial(11))
        self.assertEqual(plain_histories((chain,)), 1)
        even = ((((0, 1), (2, 3)), ((4, 5), (6, 7))), ((8, 9), (10, 11)))
        self.assertEqual(hooks((even,)), 3 * 3 * 7 * 3 * 11)
        self.assertEqual(plain_histories((even,)), factorial(11) // (3 * 3 * 7 * 3 * 11))

    def test_no_woods(self):
        for thing in NO_WOODS + ODD + (DEEP, LONG):
            self.refused(BadShape, 0, hooks, thing)
            self.refused(BadShape, 0, plain_histories, thing)


class PlainHistoriesTest(Case):
    def test_plain_histories(self):
        self.assertEqual(plain_histories((((0, 1), (2, 3)),)), 2)
        self.assertEqual(plain_histories(((((0, 1), 2), 3),)), 1)
        self.assertEqual(plain_histories((0,)), 1)
        self.assertEqual(plain_histories(((0, 1),)), 1)

    def test_small_woods(self):
        for n in range(1, 6):
            total = 0
            for wood in all_woods(n):
                if len(wood) > 1 or any(len(joint) != 2 for joint in joints_of(wood[0])):
                    self.refused(NotWhole, 0, plain_histories, wood)
                else:
                    self.assertEqual(plain_histories(wood), histories(plain(n), wood))
                    total += plain_histories(wood)
            self.assertEqual(total, size(plain(n)))

    def test_not_whole(self):
        for wood in ((0, 1), ((0, 1, 2),), ((0, 1), (2, 3)), (((0, 1, 2), 3),), ((0, (1, 2, 3)),), ((0, 1), 2)):
            self.refused(NotWhole, 0, plain_histories, wood)


if __name__ == "__main__":
    unittest.main()
