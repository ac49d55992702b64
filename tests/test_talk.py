"""Promise 4, the class Talk: its making, its properties, its signs."""

import itertools
import unittest

from lastfords.errors import NoFlood, NoIsland, Twice
from lastfords.talks import Talk
from tests.helpers import AB, AC, AD, BC, BD, CD, Case, listed

ISLANDS = ("a", "b", "c", "d")
RULES = (((AB,), BC), ((AB,), CD), ((AB, CD), AC))
FLOODS = (("high", (AD,), (BC,)), ("low", (), (AB,)), ("mid", (AB, BD), ()))
TEXT = "a b c d; a-b>b-c; a-b>c-d; a-b c-d>a-c; high: a-d / b-c; low: - / a-b; mid: a-b b-d / -"


class MakingTest(Case):

    def test_whatever_order(self):
        straight = Talk(ISLANDS, RULES, FLOODS)
        self.assertEqual(straight.text, TEXT)
        for islands in itertools.permutations(ISLANDS):
            self.assertEqual(Talk(islands, RULES, FLOODS), straight)
        for rules in itertools.permutations(RULES):
            for floods in itertools.permutations(FLOODS):
                made = Talk(ISLANDS, rules, floods)
                self.assertEqual((made.islands, made.rules, made.floods), (ISLANDS, RULES, FLOODS))

    def test_alike_ones_count_once(self):
        made = Talk(("b", "a", "d", "b", "c", "a"), RULES + RULES[::-1], FLOODS)
        self.assertEqual((made.islands, made.rules, made.floods), (ISLANDS, RULES, FLOODS))
        self.assertEqual(Talk(ISLANDS, [listed(RULES[0]), RULES[0]]).rules, RULES[:1])

    def test_rules_are_alike_only_whole(self):
        self.assertEqual(Talk(ISLANDS, (((AB,), BC), ((AB,), CD), ((AC,), BC))).rules,
                         (((AB,), BC), ((AB,), CD), ((AC,), BC)))

    def test_names_and_lists(self):
        for form in (tuple, listed):
            made = Talk(islands=form(ISLANDS), rules=form(RULES), floods=form(FLOODS))
            self.assertEqual((made.islands, made.rules, made.floods), (ISLANDS, RULES, FLOODS))
        half = Talk(list(ISLANDS), ([[AB], ["b", "c"]],), [("x", [list(AB)], ())])
        self.assertEqual((half.rules, half.floods), ((((AB,), BC),), (("x", (AB,), ()),)))

    def test_only_some_arguments(self):
        self.assertEqual((Talk().islands, Talk().rules, Talk().floods, Talk().names), ((), (), (), ()))
        self.assertEqual(Talk(floods=(("x", (), ()), ("a", (), ()))).text, "-; a: - / -; x: - / -")
        self.assertEqual(Talk(("a",)).text, "a")
        self.assertEqual(Talk(rules=(), islands=["b", "a"]).text, "a b")

    def test_lists_changed_behind_the_making(self):
        islands, rules, floods = listed(ISLANDS), listed(RULES), listed(FLOODS)
        made = Talk(islands, rules, floods)
        self.assertEqual((islands, rules, floods), (listed(ISLANDS), listed(RULES), listed(FLOODS)))
        islands.append("e")
        rules[0][0][0][0] = "z"
        rules.pop()
        floods[0][0] = "other"
        floods[1][2].clear()
        self.assertEqual((made.text, made), (TEXT, Talk(ISLANDS, RULES, FLOODS)))

    def test_no_bounds(self):
        islands = [a + b for a in "abcdef" for b in "abcdef"]
        pairs = [(one, other) for one in islands for other in islands if one < other]
        rules = [((pairs[0],), pair) for pair in pairs[1:]]
        floods = [(name, (), ()) for name in islands]
        made = Talk(islands, rules, floods)
        self.assertEqual((len(made.islands), len(made), made.pairs), (36, 629 + 36, tuple(pairs)))
        self.assertEqual(Talk.of(made.text), made)


class RefusedTest(Case):

    def test_no_island_in_rules_in_their_order(self):
        ax, ay, wz = ("a", "x"), ("a", "y"), ("w", "z")
        self.assert_error(NoIsland("x"), Talk, ("a", "b"), (((AB,), ax), ((ay,), AB)))
        self.assert_error(NoIsland("y"), Talk, ("a", "b"), (((ay,), AB), ((AB,), ax)))
        self.assert_error(NoIsland("y"), Talk, ("a", "b"), (((ay,), ax),))
        self.assert_error(NoIsland("w"), Talk, ("a", "b"), (((AB, wz), ax),))
        self.assert_error(NoIsland("z"), Talk, ("a", "b", "w"), (((AB, wz), ax),))
        self.assert_error(NoIsland("a"), Talk, (), (((AB,), BC),))
        self.assert_error(NoIsland("x"), Talk, ["a", "b"], [[[["a", "x"]], ["a", "b"]]])

    def test_no_island_in_floods(self):
        self.assert_error(NoIsland("c"), Talk, ("a", "b"), (), (("x", (BC,), (AD,)),))
        self.assert_error(NoIsland("d"), Talk, ("a", "b"), (), (("x", (AB,), (AD,)),))
        self.assert_error(NoIsland("d"), Talk, ("a", "b"), (), (("z", (), (AD,)), ("x", (BC,), ())))
        self.assert_error(NoIsland("a"), Talk, floods=(("x", (), (AB,)),))

    def test_rules_ahead_of_floods(self):
        self.assert_error(NoIsland("d"), Talk, ("a", "b"), (((AB,), AD),), (("a", (BC,), ()),))

    def test_twice(self):
        floods = (("z", (), ()), ("b", (), ()), ("z", (AB,), ()), ("b", (), ()))
        self.assert_error(Twice("z"), Talk, ("a", "b"), (), floods)
        self.assert_error(Twice("b"), Talk, ("a", "b"), (), floods[1:] + floods[:1])
        self.assert_error(Twice("x"), Talk, (), (), [["x", [], []], ["x", [], []]])

    def test_no_island_ahead_of_twice(self):
        self.assert_error(NoIsland("c"), Talk, ("a", "b"), (), (("x", (), ()), ("x", (), ()), ("y", (), (BC,))))

    def test_the_name_of_a_flood_need_be_no_island(self):
        self.assertEqual(Talk(("a", "b"), (), (("a", (AB,), ()), ("q", (), ()))).names, ("a", "q"))


class PropertiesTest(Case):

    def setUp(self):
        self.talk = Talk(ISLANDS, RULES, FLOODS)

    def test_properties(self):
        self.assertEqual(self.talk.names, ("high", "low", "mid"))
        self.assertEqual(self.talk.pairs, (AB, AC, AD, BC, BD, CD))
        self.assertEqual(self.talk.text, TEXT)
        self.assertEqual((Talk(("a",)).pairs, Talk(("b", "a")).pairs), ((), (AB,)))

    def test_no_setters(self):
        for name in ("islands", "rules", "floods", "names", "pairs", "text"):
            with self.assertRaises(AttributeError):
                setattr(self.talk, name, ())
            self.assertTrue(isinstance(getattr(Talk, name), property))
        self.assertEqual(self.talk, Talk(ISLANDS, RULES, FLOODS))

    def test_each_method_stands_in_the_class(self):
        for name in ("__init__", "of", "__len__", "__getitem__", "__contains__", "__eq__", "__add__", "__rshift__"):
            self.assertIn(name, vars(Talk))
        self.assertTrue(isinstance(vars(Talk)["of"], staticmethod))

    def test_len(self):
        for talk, many in ((self.talk, 6), (Talk(), 0), (Talk(ISLANDS), 0), (Talk(ISLANDS, RULES), 3),
                           (Talk(ISLANDS, (), FLOODS), 3)):
            self.assert_same(len(talk), many)

    def test_item(self):
        for flood in FLOODS:
            self.assertEqual(self.talk[flood[0]], flood)
        for name in ("a", "hig", "highs", "z"):
            self.assert_error(NoFlood(name), lambda: self.talk[name])
        self.assert_error(NoFlood("x"), lambda: Talk()["x"])

    def test_in(self):
        for thing in (*RULES, "high", "low", "mid"):
            self.assertIs(thing in self.talk, True)
        wrong = (*FLOODS, *ISLANDS, AB, (AB,), ((AB,), AD), ((AB, CD), AD), (AB, BC), ((), AB), (), (RULES[0],), RULES,
                 "", "hi", "higher", ("high",), ["high"], None, True, False, 0, 1, Talk(), self.talk,
                 listed(RULES[0]), ([AB], BC), ((AB,), list(BC)), ((list(AB),), BC), [(AB,), BC])
        for thing in wrong:
            self.assertIs(thing in self.talk, False)
            self.assertIs(thing in Talk(), False)

    def test_equal(self):
        same = Talk.of(TEXT)
        self.assertIs(self.talk == same, True)
        self.assertIs(self.talk != same, False)
        others = (Talk(), Talk(ISLANDS), Talk((*ISLANDS, "e"), RULES, FLOODS), Talk(ISLANDS, RULES[1:], FLOODS),
                  Talk(ISLANDS, RULES, FLOODS[1:]), Talk(ISLANDS, RULES, (("hig", (AD,), (BC,)), *FLOODS[1:])))
        things = (None, True, 0, "", TEXT, (), [], (ISLANDS, RULES, FLOODS), ISLANDS, Talk, object())
        for other in (*others, *things):
            self.assertIs(self.talk == other, False)
            self.assertIs(other == self.talk, False)
            self.assertIs(self.talk != other, True)
        self.assertIs(Talk() == Talk((), [], ()), True)
        self.assertIs(Talk() == (), False)

    def test_not_to_be_gone_through(self):
        for talk in (Talk(), self.talk):
            for action in (iter, list, tuple, set, sorted, enumerate, lambda one: [*one], lambda one: [*zip(one, one)]):
                with self.assertRaises(TypeError):
                    action(talk)
            with self.assertRaises(TypeError):
                for _ in talk:
                    self.fail()

    def test_the_same_again(self):
        for name in ("islands", "rules", "floods", "names", "pairs", "text"):
            self.assertEqual(getattr(self.talk, name), getattr(self.talk, name))


class SignsTest(Case):

    def test_plus(self):
        one = Talk(("c", "a", "b"), (((AB,), BC), ((AC,), BC)), (("x", (AB,), ()), ("p", (), ())))
        other = Talk(("d", "a", "b", "c"), (((AB,), CD), ((AB,), BC)), (("q", (), (AD,)), ("a", (), ())))
        both = Talk(ISLANDS, (((AB,), BC), ((AB,), CD), ((AC,), BC)),
                    (("a", (), ()), ("p", (), ()), ("q", (), (AD,)), ("x", (AB,), ())))
        texts = one.text, other.text
        self.assertEqual((one + other, other + one), (both, both))
        self.assertEqual((one.text, other.text), texts)
        self.assertEqual((one + Talk(), Talk() + one, Talk() + Talk()), (one, one, Talk()))

    def test_plus_twice(self):
        one = Talk(("a", "b"), (), (("p", (AB,), ()), ("m", (), ()), ("q", (), ()), ("b", (), ())))
        other = Talk(("a", "b"), (), (("q", (), ()), ("c", (), ()), ("p", (), (AB,)), ("z", (), ())))
        self.assert_error(Twice("p"), lambda: one + other)
        self.assert_error(Twice("p"), lambda: other + one)
        self.assert_error(Twice("b"), lambda: one + one)
        self.assert_error(Twice("x"), lambda: Talk.of("a b; x: - / -") + Talk.of("c; x: - / -"))

    def test_plus_something_else(self):
        for thing in (None, 1, "a", (), RULES[0]):
            with self.assertRaises(TypeError):
                Talk() + thing

    def test_with_a_rule(self):
        talk = Talk(ISLANDS, RULES[1:], FLOODS)
        self.assertEqual(talk >> RULES[0], Talk(ISLANDS, RULES, FLOODS))
        self.assertEqual(talk >> listed(RULES[0]), Talk(ISLANDS, RULES, FLOODS))
        self.assertEqual(talk >> RULES[1], talk)
        self.assertEqual(talk.rules, RULES[1:])
        self.assert_error(NoIsland("y"), lambda: talk >> ((AB, ("c", "y")), ("a", "x")))
        self.assert_error(NoIsland("x"), lambda: talk >> ((AB,), ("a", "x")))


if __name__ == "__main__":
    unittest.main()
