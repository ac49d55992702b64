"""The helpers of lastfords.plain, on which the promises rest."""

import unittest

from lastfords.plain import ascending, frozen, is_ascending, is_name, is_number


class PlainTest(unittest.TestCase):

    def test_frozen(self):
        self.assertEqual(frozen([1, ["a", ([],)], None]), (1, ("a", ((),)), None))
        for value in ("ab", 0, True, None, ()):
            self.assertEqual(frozen(value), value)

    def test_ascending(self):
        self.assertEqual(ascending(["b", "a", "b"]), ("a", "b"))
        self.assertEqual(ascending(()), ())

    def test_is_ascending(self):
        for values, expected in (((), True), ((1,), True), ((1, 2, 3), True), ((1, 1), False), ((1, 3, 2), False)):
            self.assertIs(is_ascending(values), expected)

    def test_is_name(self):
        for name in ("a", "z", "abcdefgh", "island"):
            self.assertIs(is_name(name), True, name)
        wrong = ("", "abcdefghi", "A", "aB", "a b", "a-b", " a", "a\n", "a1", "1", "_", "\u00e4", "\u0430", "\u00aa",
                 "`", "{", None, True, 0, ("a",), ["a"])
        for thing in wrong:
            self.assertIs(is_name(thing), False, thing)

    def test_is_number(self):
        for thing, least in ((0, 0), (1, 0), (1, 1), (10 ** 60, 1), (-1, -1)):
            self.assertIs(is_number(thing, least), True)
        for thing, least in ((-1, 0), (0, 1), (True, 0), (True, 1), (False, 0), (None, 0), ("1", 0), ((1,), 0), ([], 0)):
            self.assertIs(is_number(thing, least), False)


if __name__ == "__main__":
    unittest.main()
