"""Promise 4: what a PAIR, a set of PAIRs, a RULE, a FLOOD is."""

import unittest

from lastfords.talks import Talk, is_flood, is_pair, is_pairs, is_rule
from tests.helpers import AB, AC, AD, BC, CD, listed

WRONG_NAMES = ("", "abcdefghi", "A", "aB", "a1", "a b", "a-b", "a\n", "\u00e4", 0, 1, -1, True, False, None,
               (), [], ("a",), Talk())
WRONG_TUPLES = (None, True, False, 0, 1, "", "a", "ab", "abc", [], Talk(), Talk.of("a b"))

PAIRS = (AB, ("a", "ab"), ("abcdefgh", "b"), ("y", "z"))
SETS = ((), (AB,), (AB, AC), (AB, AC, AD, BC), (("a", "z"), BC))
RULES = (((AB,), BC), ((AB, CD), AC), ((CD,), AB), ((AB, AC, BC), CD))
FLOODS = (("high", (AD,), (BC,)), ("low", (), (AB,)), ("x", (), ()), ("abcdefgh", (AB, BC), ()),
          ("both", (AB,), (AB,)))


def bent(value):
    """The values that differ from this one at one place, where a wrong kind stands."""
    if isinstance(value, str):
        return list(WRONG_NAMES)
    made = [list(value), *WRONG_TUPLES]
    for at, part in enumerate(value):
        made.extend(value[:at] + (wrong,) + value[at + 1:] for wrong in bent(part))
    return made


def deep(many):
    """A tuple in a tuple in a tuple .."""
    value = ()
    for _ in range(many):
        value = (value,)
    return value


class KindsTest(unittest.TestCase):

    def check(self, function, right, wrong):
        for thing in right:
            self.assertIs(function(thing), True, thing)
            self.assertIs(function(thing=thing), True, thing)
            self.assertIs(function(listed(thing)), False, thing)
            for other in bent(thing):
                self.assertIs(function(other), False, other)
        for thing in (*wrong, *WRONG_TUPLES, deep(12)):
            self.assertIs(function(thing), False, thing)

    def test_pair(self):
        self.check(is_pair, PAIRS, (
            ("b", "a"), ("ab", "a"), ("a", "a"), (), ("a",), ("a", "b", "c"), (AB,), (AB, AC), ("a", AB)))

    def test_pairs(self):
        self.check(is_pairs, SETS, (
            AB, ((),), (AB, AB), (AC, AB), (AB, AC, AC), (AB, BC, AC), (("b", "a"),), (("a", "a"),),
            (AB, ("a",)), (AB, ("a", "b", "c")), (AB, "ac"), (AB, None), ((AB,),)))

    def test_rule(self):
        self.check(is_rule, RULES, (
            (), ((AB,),), (AB, BC), ((AB,), BC, CD), ((AB,), BC, ()), ((), AB), ((AB,), AB), ((AB, BC), BC),
            ((AB, AB), BC), ((BC, AB), CD), ((("b", "a"),), BC), ((AB,), ("c", "b")), ((AB,), ("c", "c")),
            ((AB,), (BC,)), ((AB,), ()), ((AB,), ("a", "b", "c")), ((("a", "b", "c"),), BC), (BC, (AB,)),
            ("x", (AB,), ())))

    def test_flood(self):
        self.check(is_flood, FLOODS, (
            (), ("x",), ("x", ()), ("x", (), (), ()), ((), "x", ()), ("x", AB, ()), ("x", (), AB),
            ("x", (AC, AB), ()), ("x", (), (AB, AB)), ("x", (("b", "a"),), ()), ("x", (), (("a", "a"),)),
            ("x", (("a",),), ()), ("x", (), (("a", "b", "c"),)), ("abcdefghi", (), ()), ("", (), ()),
            ((AB,), BC)))

    def test_kinds_are_not_one_another(self):
        for thing in RULES:
            self.assertFalse(is_pair(thing) or is_pairs(thing) or is_flood(thing))
        for thing in FLOODS:
            self.assertFalse(is_pair(thing) or is_pairs(thing) or is_rule(thing))
        for thing in PAIRS:
            self.assertFalse(is_pairs(thing) or is_rule(thing) or is_flood(thing))

    def test_bounds_do_not_count(self):
        letters = [chr(97 + at) for at in range(26)]
        many = tuple((one, other) for one in letters for other in letters if one < other)
        self.assertIs(is_pairs(many), True)
        self.assertIs(is_rule((many[1:], many[0])), True)
        self.assertIs(is_flood(("x", many, many)), True)


if __name__ == "__main__":
    unittest.main()
