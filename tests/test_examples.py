"""The examples of section 3, as they stand in the document."""

import unittest

from lastfords.errors import BadText, NoIsland, Twice
from lastfords.talks import (Talk, flood_told, is_flood, is_pair, is_pairs, is_rule, only_islands, renamed,
                             with_flood, with_islands, without_flood, without_rule)
from tests.helpers import Case

FIRST = "a b c d; a-b>b-c; a-b c-d>a-c; high: a-d / b-c; low: - / a-b"


class ExamplesTest(Case):

    def setUp(self):
        self.first = Talk.of(FIRST)

    def test_properties(self):
        first = self.first
        self.assertEqual(
            (first.islands, first.rules, first.names, len(first), first["low"], first.pairs[:3]),
            (('a', 'b', 'c', 'd'), (((('a', 'b'),), ('b', 'c')), ((('a', 'b'), ('c', 'd')), ('a', 'c'))),
             ('high', 'low'), 4, ('low', (), (('a', 'b'),)), (('a', 'b'), ('a', 'c'), ('a', 'd'))))

    def test_small_talks_and_in(self):
        first = self.first
        self.assertEqual(
            (Talk(("b", "a", "b")).text, Talk().text, Talk().pairs, ((("a", "b"),), ("b", "c")) in first,
             "high" in first, "a" in first),
            ('a b', '-', (), True, True, False))

    def test_kinds(self):
        self.assertEqual(
            (is_pair(("b", "a")), is_pairs(()), is_rule(((), ("a", "b"))), is_rule(((("a", "b"),), ("a", "b"))),
             is_flood(("high", (), (("a", "b"),)))),
            (False, True, False, False, True))

    def test_operators(self):
        self.assertEqual(
            ((Talk.of("a b; x: a-b / -") + Talk.of("b c; y: - / -")).text,
             (Talk(("a", "b", "c")) >> ((("a", "c"),), ("b", "c"))).text),
            ('a b c; x: a-b / -; y: - / -', 'a b c; a-c>b-c'))

    def test_less_and_more(self):
        first = self.first
        self.assertEqual(
            (without_rule(first, ((("a", "b"),), ("b", "c"))).text, flood_told(first, "low", ("c", "d"), True)["low"],
             only_islands(first, ("c", "b", "a")).text),
            ('a b c d; a-b c-d>a-c; high: a-d / b-c; low: - / a-b', ('low', (('c', 'd'),), (('a', 'b'),)),
             'a b c; a-b>b-c; high: - / b-c; low: - / a-b'))

    def test_renamed(self):
        self.assertEqual(
            (renamed(self.first, (("a", "d"), ("d", "a"))).text,
             without_flood(with_islands(Talk.of("a b; x: a-b / -"), ("c",)), "x").text),
            ('a b c d; a-c b-d>c-d; b-d>b-c; high: a-d / b-c; low: - / b-d', 'a b c'))

    def test_errors(self):
        self.assert_error(NoIsland('c'), Talk, ("a", "b"), (((("a", "b"),), ("b", "c")),))
        self.assert_error(Twice('low'), with_flood, self.first, ("low", (), ()))
        self.assert_error(BadText(), Talk.of, "b a")


if __name__ == "__main__":
    unittest.main()
