"""Datedlines: trees by dates or depths."""
