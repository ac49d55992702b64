"""Promise 4, the functions that tell a changed Talk."""

import itertools
import unittest

from lastfords.errors import NoFlood, NoIsland, NoRule, Twice
from lastfords.talks import (Talk, flood_told, is_flood, is_rule, only_islands, renamed, with_flood, with_islands,
                             with_rule, without_flood, without_rule)
from tests.helpers import AB, AC, AD, BC, BD, CD, Case, listed

TEXT = "a b c d; a-b>b-c; a-b c-d>a-c; high: a-d / b-c; low: - / a-b"


def plain_renamed(talk, names):
    """What renamed must tell, by sets of sets of islands."""
    def pairs(told):
        return frozenset(frozenset(names.get(island, island) for island in pair) for pair in told)
    return (frozenset(names.get(island, island) for island in talk.islands),
            frozenset((pairs(wants), pairs([gives])) for wants, gives in talk.rules),
            frozenset((name, pairs(joined), pairs(parted)) for name, joined, parted in talk.floods))


class TellingCase(Case):

    def setUp(self):
        self.talk = Talk.of(TEXT)

    def tearDown(self):
        # Whatever was asked, refused or not, the Talk is what it was.
        self.assertEqual((self.talk.text, self.talk), (TEXT, Talk.of(TEXT)))

    def check(self, function, names, cases):
        """Each case tells this text, also by names, with lists, and asked again."""
        for values, expected in cases:
            kept = listed(values)
            for given in (values, kept, values):
                made = function(self.talk, *given)
                self.assertIs(type(made), Talk)
                self.assertEqual(made.text, expected)
                self.assertEqual(Talk.of(expected), made)
                self.assertEqual(function(talk=self.talk, **dict(zip(names, given))), made)
            self.assertEqual(kept, listed(values))

    def refuse(self, function, names, cases):
        """Each case raises this error, also by names and with lists."""
        for values, expected in cases:
            for given in (values, listed(values)):
                self.assert_error(expected, function, self.talk, *given)
                self.assert_error(expected, function, talk=self.talk, **dict(zip(names, given)))


class RulesTest(TellingCase):

    def test_with_rule(self):
        self.check(with_rule, ("rule",), (
            ((((AC,), AB),), "a b c d; a-b>b-c; a-b c-d>a-c; a-c>a-b; high: a-d / b-c; low: - / a-b"),
            ((((AB,), AC),), "a b c d; a-b>a-c; a-b>b-c; a-b c-d>a-c; high: a-d / b-c; low: - / a-b"),
            ((((AB,), BC),), TEXT)))

    def test_with_rule_refused(self):
        self.refuse(with_rule, ("rule",), (
            ((((AB,), ("x", "y")),), NoIsland("x")),
            ((((AB, ("b", "z")), ("x", "y")),), NoIsland("z")),
            ((((("p", "q"),), AB),), NoIsland("p"))))

    def test_without_rule(self):
        self.check(without_rule, ("rule",), (
            ((((AB,), BC),), "a b c d; a-b c-d>a-c; high: a-d / b-c; low: - / a-b"),
            ((((AB, CD), AC),), "a b c d; a-b>b-c; high: a-d / b-c; low: - / a-b")))
        first, second = self.talk.rules
        self.assertEqual(without_rule(without_rule(self.talk, first), second).rules, ())

    def test_without_rule_refused(self):
        for rule in (((AB,), AC), ((AB, CD), BC), ((BC,), AB), ((("x", "y"),), AB)):
            self.refuse(without_rule, ("rule",), (((rule,), NoRule(rule)),))
        gone = without_rule(self.talk, ((AB,), BC))
        self.assert_error(NoRule(((AB,), BC)), without_rule, gone, [[["a", "b"]], ("b", "c")])


class FloodsTest(TellingCase):

    def test_with_flood(self):
        self.check(with_flood, ("flood",), (
            ((("mid", (AB, BD), (CD,)),), f"{TEXT}; mid: a-b b-d / c-d"),
            ((("a", (), ()),), "a b c d; a-b>b-c; a-b c-d>a-c; a: - / -; high: a-d / b-c; low: - / a-b"),
            ((("x", (AB,), (AB,)),), f"{TEXT}; x: a-b / a-b")))

    def test_with_flood_refused(self):
        self.refuse(with_flood, ("flood",), (
            ((("x", (AB, ("b", "z")), (("p", "q"),)),), NoIsland("z")),
            ((("x", (AB,), (("p", "q"),)),), NoIsland("p")),
            ((("low", (), (("a", "q"),)),), NoIsland("q")),
            ((("low", (), ()),), Twice("low")),
            ((("high", (AD,), (BC,)),), Twice("high"))))

    def test_without_flood(self):
        self.check(without_flood, ("name",), (
            (("high",), "a b c d; a-b>b-c; a-b c-d>a-c; low: - / a-b"),
            (("low",), "a b c d; a-b>b-c; a-b c-d>a-c; high: a-d / b-c")))
        self.refuse(without_flood, ("name",), ((("lo",), NoFlood("lo")), (("a",), NoFlood("a"))))

    def test_flood_told(self):
        begin = "a b c d; a-b>b-c; a-b c-d>a-c; "
        self.check(flood_told, ("name", "pair", "joined"), (
            (("high", AB, True), begin + "high: a-b a-d / b-c; low: - / a-b"),
            (("high", BD, True), begin + "high: a-d b-d / b-c; low: - / a-b"),
            (("high", AB, False), begin + "high: a-d / a-b b-c; low: - / a-b"),
            (("high", CD, False), begin + "high: a-d / b-c c-d; low: - / a-b"),
            (("high", BC, True), begin + "high: a-d b-c / b-c; low: - / a-b"),
            (("low", AB, True), begin + "high: a-d / b-c; low: a-b / a-b"),
            (("low", AB, False), TEXT),
            (("high", AD, True), TEXT)))

    def test_flood_told_refused(self):
        for joined in (True, False):
            self.refuse(flood_told, ("name", "pair", "joined"), (
                (("mid", AB, joined), NoFlood("mid")),
                (("mid", ("x", "y"), joined), NoFlood("mid")),
                (("low", ("x", "y"), joined), NoIsland("x")),
                (("low", ("a", "y"), joined), NoIsland("y")),
                (("low", ("aa", "b"), joined), NoIsland("aa"))))


class IslandsTest(TellingCase):

    def test_with_islands(self):
        rest = TEXT[len("a b c d"):]
        self.check(with_islands, ("islands",), (
            (((),), TEXT), ((("d", "a", "a"),), TEXT), ((("x", "b", "aa", "x"),), "a aa b c d x" + rest)))
        self.assertEqual(with_islands(Talk(), ("b", "a")).text, "a b")

    def test_only_islands(self):
        self.check(only_islands, ("islands",), (
            ((("d", "c", "b", "a"),), TEXT),
            ((("c", "a", "b", "a"),), "a b c; a-b>b-c; high: - / b-c; low: - / a-b"),
            ((("a", "b", "d"),), "a b d; high: a-d / -; low: - / a-b"),
            ((("a", "c", "d"),), "a c d; high: a-d / -; low: - / -"),
            ((("b", "c", "d"),), "b c d; high: - / b-c; low: - / -"),
            ((("b",),), "b; high: - / -; low: - / -"),
            (((),), "-; high: - / -; low: - / -")))

    def test_only_islands_leaves_out_a_rule_by_any_of_its_islands(self):
        talk = Talk.of("a b c d e; a-b>c-d; a-b b-c>a-e; a-e>a-b")
        self.assertEqual(only_islands(talk, ("a", "b", "c", "d")).text, "a b c d; a-b>c-d")
        self.assertEqual(only_islands(talk, ("a", "b", "c", "e")).text, "a b c e; a-b b-c>a-e; a-e>a-b")
        self.assertEqual(only_islands(talk, ("c", "d", "e")).text, "c d e")

    def test_only_islands_refused(self):
        self.refuse(only_islands, ("islands",), (
            ((("a", "x", "w"),), NoIsland("x")), ((("w", "x"),), NoIsland("w")), ((("high",),), NoIsland("high"))))


class RenamedTest(TellingCase):

    def test_told(self):
        self.check(renamed, ("pairs",), (
            (((),), TEXT),
            (((("a", "a"),),), TEXT),
            (((("a", "d"), ("d", "a")),), "a b c d; a-c b-d>c-d; b-d>b-c; high: a-d / b-c; low: - / b-d"),
            (((("a", "z"),),), "b c d z; b-z>b-c; b-z c-d>c-z; high: d-z / b-c; low: - / b-z"),
            (((("b", "bb"),),), "a bb c d; a-bb>bb-c; a-bb c-d>a-c; high: a-d / bb-c; low: - / a-bb"),
            (((("c", "d"), ("d", "c")),), "a b c d; a-b>b-d; a-b c-d>a-d; high: a-c / b-d; low: - / a-b")))

    def test_sets_ascend_again(self):
        talk = Talk.of("a b c d; a-b a-c b-d>c-d; x: a-b a-c a-d / b-c b-d")
        made = renamed(talk, (("a", "z"), ("c", "a")))
        self.assertEqual(made.text, "a b d z; a-z b-d b-z>a-d; x: a-z b-z d-z / a-b b-d")
        self.assertTrue(all([is_rule(rule) for rule in made.rules] + [is_flood(flood) for flood in made.floods]))

    def test_all_ways_of_exchanging(self):
        for names in itertools.permutations(("a", "b", "c", "d", "e"), 4):
            told = dict(zip("abcd", names))
            made = renamed(self.talk, tuple(told.items()))
            self.assertEqual(Talk.of(made.text), made)
            self.assertEqual(plain_renamed(made, {}), plain_renamed(self.talk, told))
            self.assertTrue(all([is_rule(rule) for rule in made.rules] + [is_flood(flood) for flood in made.floods]))
            back = tuple((name, island) for island, name in told.items())
            self.assertEqual(renamed(made, back), self.talk)

    def test_floods_keep_their_names(self):
        talk = Talk.of("a b; a: a-b / -; b: - / -")
        self.assertEqual(renamed(talk, (("a", "c"),)).text, "b c; a: b-c / -; b: - / -")

    def test_refused(self):
        self.refuse(renamed, ("pairs",), (
            (((("a", "x"), ("q", "y"), ("p", "z")),), NoIsland("q")),
            (((("x", "a"),),), NoIsland("x")),
            (((("a", "b"), ("b", "b"), ("q", "a")),), NoIsland("q")),
            (((("a", "b"),),), Twice("b")),
            (((("d", "a"),),), Twice("a")),
            (((("a", "x"), ("b", "x")),), Twice("x")),
            (((("a", "y"), ("b", "y"), ("c", "x"), ("d", "x")),), Twice("x")),
            (((("a", "d"), ("b", "c")),), Twice("c")),
            (((("a", "b"), ("b", "c"), ("c", "d")),), Twice("d"))))


if __name__ == "__main__":
    unittest.main()
