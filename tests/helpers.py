"""What several tests need."""

import unittest

AB, AC, AD = ("a", "b"), ("a", "c"), ("a", "d")
BC, BD, CD = ("b", "c"), ("b", "d"), ("c", "d")


def listed(value):
    """The value with lists for tuples, at any depth."""
    if isinstance(value, (list, tuple)):
        return [listed(part) for part in value]
    return value


class Case(unittest.TestCase):
    """A test case that compares errors whole."""

    def assert_error(self, expected, action, *args, **named):
        """The action raises an error of just this class, with just these values."""
        with self.assertRaises(type(expected)) as caught:
            action(*args, **named)
        self.assertIs(type(caught.exception), type(expected))
        self.assertEqual(vars(caught.exception), vars(expected))

    def assert_same(self, value, expected):
        """Both are equal, and of the same kind: True is not 1."""
        self.assertEqual(value, expected)
        self.assertIs(type(value), type(expected))
