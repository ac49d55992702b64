"""Promises 2 and 5 to 8: a parameter called thing may be any value, and only the values described give True.

The right values and these bent in one thing are held against all right values of a small Talk, by their repr:
so a list is no tuple, and True is no number.
"""

import itertools
import unittest

from lastfords.board import Board
from lastfords.closures import is_fords_against, is_steps
from lastfords.errors import NoIsland
from lastfords.floods import is_fit, is_order
from lastfords.looks import Looks
from lastfords.partings import is_parting, is_state
from lastfords.risings import is_history
from lastfords.talks import Talk
from tests import reckoning
from tests.helpers import AB, AC, AD, BC, BD, CD, Case, listed
from tests.reckoning import all_fords, all_partings, histories, joined_at, keeps, states

BELOW = (None, True, False, "", "a", "zz", 0, 1, -1, (), [], ("a",), (1,), Talk(), Talk.of("a b"), Board(),
         Looks(Talk()))


def deep(kind, value):
    """The value twelve levels deep."""
    for _ in range(11):
        value = kind([value])
    return value


WRONG = (*BELOW, (None,), (True,), ((),), ((), ()), ("a", "b"), (("a",), ("b",)), [("a",)], (0, 0), (Talk(),),
         deep(tuple, ()), deep(list, 1), deep(tuple, "a"), deep(tuple, Talk()))


def bent(value):
    """The values that differ from this one in one thing."""
    if not isinstance(value, tuple):
        return [*BELOW, str(value), *([value + 1, value == 1] if isinstance(value, int) else [value + "x", value.upper()])]
    found = [list(value), value[::-1], value[1:], value[:-1], value + value, value + value[-1:], *BELOW]
    for place, part in enumerate(value):
        found.append(value[:place] + (part,) + value[place:])
        found.append(value[:place] + value[place + 1:])
        found.append(value[:place] + value[place + 1:] + (part,))
        for wrong in bent(part):
            found.append(value[:place] + (wrong,) + value[place + 1:])
    for wrong in BELOW:
        found.append((*value, wrong))
        found.append((wrong, *value))
    return found


class ThingsCase(Case):

    def check(self, function, given, rights, is_right):
        """Each value is right exactly if is_right tells so, by place and by name."""
        wrong = 0
        for right in rights:
            self.assertIs(is_right(right), True, right)
            for thing in (right, listed(right), *bent(right), *WRONG):
                expected = is_right(thing)
                wrong += not expected
                self.assertIs(function(*given, thing), expected, (given, thing))
                self.assertIs(function(*given, thing=thing), expected, (given, thing))
        self.assertGreater(wrong, 40 * len(rights))

    def check_all(self, function, given, rights):
        """Just these are right."""
        texts = {repr(right) for right in rights}
        for part in range(0, len(rights), max(1, len(rights) // 6)):
            self.check(function, given, rights[part:part + 1], lambda thing: repr(thing) in texts)


class PartingThingsTest(ThingsCase):

    def test_is_parting(self):
        for islands in ((), ("a",), ("a", "b"), ("a", "b", "c"), ("a", "b", "c", "d"), ("aa", "ab", "x")):
            self.check_all(is_parting, (islands,), list(all_partings(islands)))
            self.check_all(is_parting, (list(islands),), list(all_partings(islands)))

    def test_is_state(self):
        for text in ("-", "a", "a b", "a b c", "a b c; a-b>b-c", "a b c d; a-b>b-c; a-c b-d>a-d; x: a-b / a-c"):
            talk = Talk.of(text)
            self.check_all(is_state, (talk,), states(talk))

    def test_is_history(self):
        for text in ("-", "a; x: - / -", "a b", "a b c", "a b c; a-b>b-c; high: b-c / a-b",
                     "a b c d; a-b>b-c; x: - / -; y: a-c / a-b"):
            talk = Talk.of(text)
            self.check_all(is_history, (talk,), histories(talk))

    def test_nothing_is_a_history_where_there_is_none(self):
        talk = Talk.of("a b c; x: a-b / a-b")
        for history in histories(Talk(("a", "b", "c"))):
            for thing in (history, *bent(history), *WRONG):
                self.assertIs(is_history(talk, thing), False)


class FloodThingsTest(ThingsCase):

    def test_is_order(self):
        for text in ("-", "a; x: - / -", "a b c; x: a-b / -; y: - / b-c; z: a-c / a-b", "a b; x: - / -; y: - / -; z: - / -",
                     "a b c d; a-b>c-d; july: c-d / a-b; june: a-c / -; may: a-b / a-c"):
            talk = Talk.of(text)
            self.check_all(is_order, (talk,), reckoning.orders(talk))

    def test_is_fit(self):
        for text in ("-", "a; x: - / -", "a b", "a b; x: a-b / -", "a b; x: a-b / -; y: - / a-b", "a b c; a-b>b-c; x: a-c / a-b",
                     "a b c; a-b>b-c"):
            talk = Talk.of(text)
            many = len(talk.names)
            rights = [(fords, tuple(zip(talk.names, row)))
                      for fords in all_fords(talk.islands, (1, 2, 3, 4))
                      for row in itertools.product(range(6), repeat=many)
                      if reckoning.is_fit(talk, fords, dict(zip(talk.names, row)))]
            small = [right for right in rights if max([height for _, height in right[0]], default=0) < 4
                     and max([water for _, water in right[1]], default=0) < 5]
            texts = {repr(right) for right in rights}
            for place in range(0, len(small), max(1, len(small) // 5)):
                self.check(is_fit, (talk,), small[place:place + 1], lambda thing: repr(thing) in texts)

    def test_great_numbers_are_fits(self):
        talk = Talk.of("a b c; x: a-c / a-b; y: - / a-c b-c")
        great = 10 ** 60
        fords = ((AB, 1), (AC, great), (BC, 1))
        self.assertIs(is_fit(talk, (fords, (("x", 1), ("y", great)))), True)
        self.assertIs(is_fit(talk, (fords, (("x", 0), ("y", great)))), False)
        self.assertIs(is_fit(talk, (fords, (("x", great - 1), ("y", great + 1)))), True)
        self.assertIs(is_fit(talk, (fords, (("x", great), ("y", great)))), False)
        self.assertIs(is_fit(talk, (fords, (("x", 1), ("y", great - 1)))), False)


class FordsAgainstTest(ThingsCase):

    def test_is_fords_against(self):
        asked = (("a b c; a-b>b-c", ((BC,), AB)), ("a b c; a-b>b-c", ((), AC)), ("a b", ((), AB)),
                 ("a b c", ((AB,), AC)), ("a b c; a-b a-c>b-c", ((AC,), BC)))
        for text, (wants, gives) in asked:
            talk = Talk.of(text)
            rights = [fords for fords in all_fords(talk.islands, (0, 1, 2, 3))
                      if all(keeps(fords, rule) for rule in talk.rules) and not keeps(fords, (wants, gives))]
            texts = {repr(right) for right in rights}
            small = [right for right in rights if max(height for _, height in right) < 3]
            for place in range(0, len(small), max(1, len(small) // 5)):
                self.check(is_fords_against, (talk, wants, gives), small[place:place + 1],
                           lambda thing: repr(thing) in texts)

    def test_nothing_is_against_what_follows(self):
        talk = Talk.of("a b c; a-b>b-c")
        for wants, gives in (((AB,), AC), ((AB, AC), BC), ((AC,), AC)):
            for thing in (*all_fords(talk.islands, (0, 1, 2)), *WRONG):
                self.assertIs(is_fords_against(talk, wants, gives, thing), False)

    def test_great_heights(self):
        great = 10 ** 60
        talk = Talk.of("a b c; a-b>b-c")
        self.assertIs(is_fords_against(talk, (BC,), AB, ((AB, 1), (AC, great), (BC, great + 1))), True)
        self.assertIs(is_fords_against(talk, (AC,), AB, ((AB, great), (AC, great), (BC, great))), False)

    def test_no_island(self):
        talk = Talk.of("a b c; a-b>b-c")
        for thing in (*WRONG, ((AB, 1), (AC, 1), (BC, 2))):
            for function in (is_steps, is_fords_against):
                self.assert_error(NoIsland("x"), function, talk, (AB, ("b", "x")), ("a", "y"), thing)
                self.assert_error(NoIsland("y"), function, talk, (AB,), ("a", "y"), thing)


def steps_now(talk, joined):
    """Of the repr of each STEP that can be made now the PAIR that it joins."""
    found = {repr(("told", rule)): rule[1] for rule in talk.rules if joined.issuperset(rule[0])}
    for one, other in itertools.product(joined, repeat=2):
        common = set(one) & set(other)
        if len(common) == 1:
            third = tuple(sorted(set(one) ^ set(other)))
            found[repr(("round", one, other, third))] = third
    return found


def plain_is_steps(talk, wants, gives, thing):
    """Whether thing is STEPS, by all that can be made each time."""
    if type(thing) is not tuple:
        return False
    joined = set(wants)
    for step in thing:
        now = steps_now(talk, joined)
        if repr(step) not in now:
            return False
        joined.add(now[repr(step)])
    return gives in joined


class StepsTest(ThingsCase):

    def check_steps(self, text, wants, gives, rights):
        talk = Talk.of(text)
        self.check(is_steps, (talk, wants, gives), rights,
                   lambda thing: plain_is_steps(talk, wants, gives, thing))

    def test_is_steps(self):
        round_three = ("round", AB, AC, BC)
        self.check_steps("a b c", (AB, AC), BC, [
            (round_three,), (("round", AC, AB, BC),), (round_three, round_three), (round_three, ("round", BC, AB, AC))])
        self.check_steps("a b c; a-b>b-c", (AB,), AC, [
            (("told", ((AB,), BC)), ("round", AB, BC, AC)), (("told", ((AB,), BC)), ("round", BC, AB, AC))])
        self.check_steps("a b c d; a-b>c-d; a-b c-d>a-c", (AB,), AD, [
            (("told", ((AB,), CD)), ("told", ((AB, CD), AC)), ("round", AC, CD, AD))])
        self.check_steps("a b c; a-b>b-c", (AB, AC), AB, [(), (round_three,), (("told", ((AB,), BC)),)])

    def test_what_looks_like_steps(self):
        talk = Talk.of("a b c d; a-b>b-c; a-c b-d>a-d")
        for wants, gives, thing in (
                ((AB,), BC, (("round", AB, AC, BC),)), ((AB, CD), BC, (("round", AB, CD, BC),)),
                ((AB, AC), BC, (("round", AB, AC, ("c", "b")),)), ((AB, AC), BC, (("round", AB, AC, AB), ("round", AB, AC, BC))),
                ((AB,), AB, (("round", AB, AB, AB),)), ((AB,), AC, (("told", ((AB,), AC)),)),
                ((AB,), BC, (("told", (((AB,)), BC)), ("told", ((AC, BD), AD)))), ((AC,), AD, (("told", ((AC, BD), AD)),)),
                ((AB, BD), AD, (("round", BD, ("b", "a"), AD),)), ((AB, BD), AD, (("round", ("b", "a"), BD, AD),)),
                ((BD, CD), AD, (("told", ((AC, BD), AD)), ("round", BD, CD, BC))), ((AB,), BC, ()),
                ((AB,), BC, (("Told", ((AB,), BC)),)), ((AB,), BC, (("told", ((AB,), BC), ()),)),
                ((AB,), BC, (("told", [(AB,), BC]),)), ((AB, AC), BC, (("round", AB, AC),)),
                ((AB, AC), BC, (("round", (AB, AC), BC),)), ((AB, AC), BC, ("round", AB, AC, BC)),
                ((AB,), BC, ("told", ((AB,), BC))), ((AB, AC), BC, (("round", AB, [*AC], BC),))):
            self.assertIs(is_steps(talk, wants, gives, thing), False, thing)
            self.assertIs(plain_is_steps(talk, wants, gives, thing), False, thing)

    def test_steps_that_nobody_needs(self):
        talk = Talk.of("a b c d; a-b>b-c")
        more = (("round", AB, AC, BC), ("told", ((AB,), BC)), ("round", BC, AB, AC))
        self.assertIs(is_steps(talk, (AB, AC), BC, more), True)
        self.assertIs(is_steps(talk, (AB, AC), BD, more), False)


class WatersTest(unittest.TestCase):

    def test_water_0_counts(self):
        # Joined by the fords a-c and b-c at water 0 alone: there the RULE must hold, too.
        talk = Talk.of("a b c; a-b>a-c; a-c b-c>a-b")
        fords = ((AB, 1), (AC, 0), (BC, 0))
        self.assertEqual(joined_at(fords, 0), {AB})
        self.assertIs(is_fords_against(talk, (), BC, fords), False)
        self.assertIs(is_fords_against(Talk.of("a b c; a-c b-c>a-b"), (AB,), BC, fords), True)
        self.assertIs(is_fit(talk, (((AB, 2), (AC, 1), (BC, 1)), ())), False)
        self.assertIs(is_fit(talk, (((AB, 2), (AC, 2), (BC, 1)), ())), True)
        self.assertIs(is_fit(talk, (((AB, 1), (AC, 0), (BC, 1)), ())), False)


if __name__ == "__main__":
    unittest.main()
