"""Promise 9: what is sure, against all FITs of small heights and waters."""

import functools
import itertools
import unittest

from lastfords.errors import OtherTalk, Stuck
from lastfords.floods import can_be, is_fit, stuck_lot
from lastfords.sure import (as_much, idle_floods, idle_tellings, may_be_seen, rule_holds, same_fits, seen_fit, shown,
                            stands, sure_higher, sure_joined, sure_parted, surely_seen)
from lastfords.talks import Talk, flood_told, with_flood, without_flood
from tests import reckoning
from tests.helpers import Case
from tests.reckoning import NAMES, all_rules, drawn_talks, joined_at, keepers, pairs_of, shows, subsets

TOLD = (
    "-", "a", "a b", "a b; x: - / -", "a b; x: a-b / -; y: - / -", "a b; x: a-b / -; y: - / a-b", "-; x: - / -; y: - / -",
    "a b; x: a-b / a-b", "a b; x: a-b / a-b; y: a-b / -", "a b c", "a b c; a-b>b-c", "a b c; a-b>b-c; b-c>a-b",
    "a b c; x: a-b / -; y: - / b-c; z: a-c / a-b", "a b c; p: a-b / a-c; q: b-c / a-b; r: a-c / -",
    "a b c; x: a-b a-c b-c / -", "a b c; a-b>a-c; p: a-b / b-c; q: - / -", "a b c; p: a-b / a-c; q: a-b / -",
    "a b c; a-b>b-c; p: b-c / a-b; q: a-b / -", "a b c; p: - / a-b a-c b-c; q: a-b / a-c b-c", "a b c; p: a-b / a-c; q: a-c / a-b")
FOUR_TOLD = ("a b c d; a-b>c-d; x: a-b / a-c", "a b c d; a-b c-d>a-c; x: a-b / -", "a b c d; x: a-b c-d / a-c",
             "a b c d; a-b>c-d; a-c>b-d; x: a-b / b-d")
TOP = 5


@functools.cache
def moments(fords, top):
    """Of each water which PAIRs are joined."""
    return tuple(joined_at(fords, water) for water in range(top + 1))


def plain_fits(talk, top):
    """All FITs with heights from 1 and waters up to this number, as pairs of FORDS and a dict."""
    found = []
    for fords in keepers(talk, tuple(range(1, top + 1))):
        standing = [[water for water, joined in enumerate(moments(fords, top)) if shows(flood, joined)]
                    for flood in talk.floods]
        found.extend((fords, dict(zip(talk.names, row))) for row in itertools.product(*standing))
    return found


@functools.cache
def known():
    """Some Talks, each with its small FITs."""
    talks = [*map(Talk.of, TOLD), *drawn_talks(91, NAMES[:3], 80, 2, 2), *drawn_talks(94, NAMES[:3], 20, 2, 3)]
    return ([(talk, plain_fits(talk, TOP), TOP) for talk in talks]
            + [(talk, plain_fits(talk, 4), 4) for talk in map(Talk.of, FOUR_TOLD)])


def can_show(flood, fords, top):
    """Whether some water of the FORDS shows this."""
    return any(shows(flood, joined) for joined in moments(fords, top))


def asked_sets(talk):
    """Pairs of sets of PAIRs, all of them for three ISLANDs."""
    pairs = talk.pairs
    some = subsets(pairs) if len(pairs) < 4 else [part for part in subsets(pairs) if len(part) < 3][::3]
    return [(joined, parted) for joined in some for parted in some]


class TwoFloodsTest(Case):

    def test_stands(self):
        found = []
        for talk, fits, _ in known():
            for one, other in itertools.product(talk.names, repeat=2):
                if not fits:
                    self.assert_error(Stuck(stuck_lot(talk)), stands, talk, one, other)
                    continue
                signs = {(levels[one] > levels[other]) - (levels[one] < levels[other]) for _, levels in fits}
                expected = {(1,): "higher", (-1,): "lower"}.get(tuple(signs), "open")
                self.assert_same(stands(talk, one, other), expected)
                found.append(expected)
                if expected == "open":
                    self.assertIn(0, signs)
        self.assertGreater(min(map(found.count, ("higher", "lower", "open"))), 10)

    def test_sure_higher(self):
        for talk, fits, _ in known():
            if fits:
                self.assert_same(sure_higher(talk), tuple(
                    (one, other) for one in talk.names for other in talk.names
                    if all(levels[one] > levels[other] for _, levels in fits)))
            else:
                self.assert_error(Stuck(stuck_lot(talk)), sure_higher, talk)

    def test_by_the_guarantee(self):
        for talk in drawn_talks(92, NAMES[:5], 20, 4, 5):
            if not can_be(talk):
                continue
            for one, other in itertools.product(talk.names, repeat=2):
                more = without_flood(talk, one)
                joined = tuple(sorted({*talk[one][1], *talk[other][1]}))
                expected = not can_be(with_flood(more, (one, joined, talk[one][2])))
                self.assertIs((one, other) in sure_higher(talk), expected)
                self.assertIs(stands(talk, one, other) == "higher", expected)
                self.assertIs(stands(talk, other, one) == "lower", expected)


class ShownTest(Case):

    def test_shown(self):
        found = []
        for talk, fits, _ in known():
            for name, pair in itertools.product(talk.names, talk.pairs):
                if not fits:
                    self.assert_error(Stuck(stuck_lot(talk)), shown, talk, name, pair)
                    continue
                seen = {pair in joined_at(fords, levels[name]) for fords, levels in fits}
                expected = {(True,): "joined", (False,): "parted"}.get(tuple(seen), "open")
                self.assert_same(shown(talk, name, pair), expected)
                found.append(expected)
        self.assertGreater(min(map(found.count, ("joined", "parted", "open"))), 10)

    def test_sure_joined_and_parted(self):
        for talk, fits, _ in known():
            for name in talk.names:
                if fits:
                    self.assert_same(sure_joined(talk, name), tuple(
                        pair for pair in talk.pairs if all(pair in joined_at(fords, levels[name]) for fords, levels in fits)))
                    self.assert_same(sure_parted(talk, name), tuple(
                        pair for pair in talk.pairs if all(pair not in joined_at(fords, levels[name]) for fords, levels in fits)))
                else:
                    self.assert_error(Stuck(stuck_lot(talk)), sure_joined, talk, name)
                    self.assert_error(Stuck(stuck_lot(talk)), sure_parted, talk, name)

    def test_by_the_guarantee(self):
        for talk in drawn_talks(93, NAMES[:5], 20, 4, 4):
            if can_be(talk):
                for name, pair in itertools.product(talk.names, talk.pairs):
                    told = shown(talk, name, pair)
                    self.assertIs(told == "joined", not can_be(flood_told(talk, name, pair, False)))
                    self.assertIs(told == "parted", not can_be(flood_told(talk, name, pair, True)))


class SeenTest(Case):

    def test_may_be_seen_and_seen_fit(self):
        for talk, fits, top in known():
            maps = {fords for fords, _ in fits}
            for joined, parted in asked_sets(talk):
                expected = any(can_show(("", joined, parted), fords, top) for fords in maps)
                self.assertIs(may_be_seen(talk, joined, parted), expected)
                found = seen_fit(talk, joined, parted)
                self.assertIs(found is not None, expected)
                if expected:
                    self.check_seen(talk, joined, parted, found)

    def check_seen(self, talk, joined, parted, found):
        self.assertIs(type(found), tuple)
        fit, water = found
        self.assertTrue(type(water) is int and water >= 0)
        self.assertIs(is_fit(talk, fit), True)
        self.assertTrue(reckoning.is_fit(talk, fit[0], dict(fit[1])))
        self.assertTrue(shows(("", joined, parted), joined_at(fit[0], water)))

    def test_surely_seen(self):
        answers = []
        for talk, fits, top in known():
            maps = {fords for fords, _ in fits}
            for joined, parted in asked_sets(talk):
                expected = all(can_show(("", joined, parted), fords, top) for fords in maps)
                self.assertIs(surely_seen(talk, joined, parted), expected)
                answers.append(expected)
        self.assertGreater(min(answers.count(True), answers.count(False)), 1000)

    def test_rule_holds(self):
        for talk, fits, _ in known():
            maps = {fords for fords, _ in fits}
            for wants, gives in all_rules(talk.islands):
                expected = all(reckoning.keeps(fords, (wants, gives)) for fords in maps)
                self.assertIs(rule_holds(talk, wants, gives), expected)

    def test_without_a_fit(self):
        jam = Talk.of("a b c; p: a-b / a-c; q: b-c / a-b; r: a-c / -")
        pairs = pairs_of(("a", "b", "c"))
        for joined, parted in asked_sets(jam):
            self.assertIs(may_be_seen(jam, joined, parted), False)
            self.assertIsNone(seen_fit(jam, joined, parted))
            self.assertIs(surely_seen(jam, joined, parted), True)
        for gives in pairs:
            self.assertIs(rule_holds(jam, tuple(pair for pair in pairs if pair != gives), gives), True)

    def test_all_joined_and_all_parted_are_surely_seen(self):
        for talk, _, _ in known():
            self.assertIs(surely_seen(talk, talk.pairs, ()), True)
            self.assertIs(surely_seen(talk, (), talk.pairs), True)
            self.assertIs(surely_seen(talk, (), ()), True)
            self.assertIs(may_be_seen(talk, (), ()), can_be(talk))

    def test_a_pair_that_is_asked_for_both(self):
        two = Talk(("a", "b"))
        self.assertIs(may_be_seen(two, two.pairs, two.pairs), False)
        self.assertIs(surely_seen(two, two.pairs, two.pairs), False)
        self.assertIsNone(seen_fit(two, two.pairs, two.pairs))


class IdleTest(Case):

    def test_idle_floods(self):
        found = []
        for talk, _, top in known():
            if len(talk.islands) > 3:
                continue
            idle = []
            for flood in talk.floods:
                less = without_flood(talk, flood[0])
                if all(can_show(flood, fords, top) for fords, _ in plain_fits(less, top)):
                    idle.append(flood[0])
            self.assert_same(idle_floods(talk), tuple(idle))
            found.extend(name in idle for name in talk.names)
        self.assertGreater(min(found.count(True), found.count(False)), 10)

    def test_idle_floods_of_what_can_not_be(self):
        jam = Talk.of("a b c; p: a-b / a-c; q: b-c / a-b; r: a-c / -")
        self.assertEqual(idle_floods(jam), ("r",))
        self.assertEqual(idle_floods(Talk.of("a b; x: a-b / a-b; y: a-b / a-b")), ("x", "y"))
        self.assertEqual(idle_floods(Talk.of("a b; x: a-b / a-b; y: - / -")), ("y",))

    def test_idle_tellings(self):
        many = 0
        for talk, fits, top in known():
            if not fits:
                self.assert_error(Stuck(stuck_lot(talk)), idle_tellings, talk)
                continue
            idle = []
            for name, joined, parted in talk.floods:
                for word, told in (("joined", joined), ("parted", parted)):
                    for pair in told:
                        left = tuple(other for other in told if other != pair)
                        flood = (name, left, parted) if word == "joined" else (name, joined, left)
                        less = with_flood(without_flood(talk, name), flood)
                        if all((pair in joined_at(fords, levels[name])) is (word == "joined")
                               for fords, levels in plain_fits(less, top)):
                            idle.append((name, word, pair))
            self.assert_same(idle_tellings(talk), idle)
            many += len(idle)
        self.assertGreater(many, 10)


class TwoTalksTest(Case):

    def test_as_much_and_same_fits(self):
        groups = {}
        for talk, fits, _ in known():
            if len(fits) < 700:
                marks = frozenset((fords, tuple(sorted(levels.items()))) for fords, levels in fits)
                groups.setdefault((talk.islands, talk.names), []).append((talk, marks))
        found = []
        for group in groups.values():
            for (one, first), (other, second) in itertools.product(group, repeat=2):
                self.assertIs(as_much(one, other), first <= second)
                self.assertIs(same_fits(one, other), first == second)
                found.append((first <= second, first == second))
        self.assertGreater(min(map(found.count, ((True, True), (True, False), (False, False)))), 15)

    def test_what_can_not_be_has_no_fit_that_another_has_not(self):
        torn, other, free = (Talk.of(text) for text in (
            "a b c; x: a-b / a-b", "a b c; x: a-b a-c / b-c", "a b c; a-b>b-c; x: a-c / -"))
        self.assertEqual((as_much(torn, free), as_much(free, torn), same_fits(torn, other), same_fits(torn, free)),
                         (True, False, True, False))

    def test_other_talk(self):
        one = Talk.of("a b; x: a-b / -")
        for text in ("a b", "a b c; x: a-b / -", "a b; y: a-b / -", "a b; x: a-b / -; y: - / -", "-"):
            for function in (as_much, same_fits):
                self.assert_error(OtherTalk(), function, one, Talk.of(text))
                self.assert_error(OtherTalk(), function, Talk.of(text), one)
        self.assertIs(as_much(one, Talk.of("a b; x: - / a-b")), False)


if __name__ == "__main__":
    unittest.main()
