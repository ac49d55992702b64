"""Promise 6: PARTINGs and states, against all PARTINGs of few ISLANDs."""

import itertools
import unittest

from lastfords.partings import (all_states, both_join, broken_by, either_joins, how_many_states, is_finer, is_parting,
                                is_state, join_states, least_state, lots_from, next_above, next_below,
                                number_of_state, pairs_joined, rules_for, state_at)
from lastfords.talks import Talk
from tests.helpers import Case
from tests.reckoning import (NAMES, all_partings, drawn_talks, holds, joined_by, joined_at, pairs_of, small_talks,
                             states, subsets)

COUNTS = (1, 1, 2, 5, 15, 52, 203, 877)
LETTERS = tuple("abcdefghijkl")


def finest(partings, joined):
    """The PARTING among these that joins all of joined and is finer than each other one that does."""
    fitting = [parting for parting in partings if joined_by(parting) >= joined]
    [least] = [one for one in fitting if all(joined_by(one) <= joined_by(other) for other in fitting)]
    return least


class PartingsTest(Case):

    def islands(self):
        return [NAMES[:many] for many in range(5)] + [("aa", "b", "bc", "x")]

    def test_all_are_partings(self):
        for islands in (*self.islands(), NAMES):
            known = all_partings(islands)
            self.assertEqual(len(known), COUNTS[len(islands)])
            for parting in known:
                self.assertIs(is_parting(islands, parting), True)
                self.assertIs(is_parting((*islands, "y"), parting), False)
                self.assertIs(is_parting(islands[1:], parting), not islands)
                self.assert_same(pairs_joined(parting), tuple(sorted(joined_by(parting))))

    def test_all_tuples_of_lots(self):
        lots = [lot for size in range(4) for lot in itertools.product("abc", repeat=size)]
        for thing in itertools.chain(*[itertools.product(lots, repeat=size) for size in range(4)]):
            self.assertEqual(is_parting(("a", "b", "c"), thing), thing in all_partings(("a", "b", "c")))

    def test_lots_from(self):
        for islands in self.islands():
            pairs = pairs_of(islands)
            for chosen in subsets(pairs):
                joined = joined_at(tuple((pair, int(pair in chosen)) for pair in pairs), 0) if pairs else frozenset()
                expected = finest(all_partings(islands), joined)
                self.assert_same(lots_from(islands, chosen), expected)
                self.assertEqual(lots_from(islands, (*chosen[::-1], *chosen[:2])), expected)
                self.assertEqual(finest(all_partings(islands), frozenset(chosen)), expected)

    def test_two_partings(self):
        for islands in self.islands():
            known = all_partings(islands)
            for one, other in itertools.product(known, repeat=2):
                first, second = joined_by(one), joined_by(other)
                self.assertIs(is_finer(one, other), first <= second)
                self.assertEqual(joined_by(both_join(one, other)), first & second)
                self.assertIs(is_parting(islands, both_join(one, other)), True)
                self.assertEqual(either_joins(one, other), finest(known, first | second))
                self.assertEqual(either_joins(one, other), either_joins(other, one))

    def test_twelve_islands(self):
        threes = tuple(tuple(LETTERS[at:at + 3]) for at in range(0, 12, 3))
        twos = tuple(tuple(LETTERS[at:at + 2]) for at in range(0, 12, 2))
        ends = (LETTERS[:6], LETTERS[6:])
        self.assertEqual(either_joins(threes, twos), ends)
        self.assertEqual(both_join(threes, twos), (
            ("a", "b"), ("c",), ("d",), ("e", "f"), ("g", "h"), ("i",), ("j",), ("k", "l")))
        self.assertEqual((is_finer(threes, ends), is_finer(twos, ends), is_finer(ends, twos), is_finer(twos, threes)),
                         (True, True, False, False))
        self.assertEqual(pairs_joined((LETTERS,)), pairs_of(LETTERS))
        self.assertEqual(lots_from(LETTERS, tuple(zip(LETTERS, LETTERS[2:]))), (LETTERS[::2], LETTERS[1::2]))


class StatesTest(Case):

    def talks(self):
        return [Talk(), Talk(("a",)), Talk(("a", "b")), Talk(NAMES[:4]), *small_talks(NAMES[:3], 2),
                *drawn_talks(21, NAMES[:3], 10, 5, 2), *drawn_talks(22, NAMES[:4], 40, 5, 2),
                *drawn_talks(23, NAMES, 4, 8, 1)]

    def test_states_and_their_numbers(self):
        for talk in self.talks():
            known = states(talk)
            self.assert_same(all_states(talk), known)
            self.assertEqual(how_many_states(talk), len(known))
            self.assertEqual([state_at(talk, number) for number in range(len(known))], known)
            for parting in all_partings(talk.islands):
                self.assertIs(is_state(talk, parting), parting in known)
                self.assertEqual(number_of_state(talk, parting),
                                 known.index(parting) if parting in known else None)

    def test_at_each_water_there_is_a_state(self):
        talk = Talk.of("a b c; a-b>b-c")
        for parting in all_partings(talk.islands):
            fords = tuple((pair, int(pair in joined_by(parting))) for pair in talk.pairs)
            self.assertEqual(joined_at(fords, 0), joined_by(parting))
            self.assertIs(is_state(talk, parting), all(holds(rule, joined_at(fords, 0)) for rule in talk.rules))

    def test_broken_by(self):
        for talk in self.talks():
            for parting in all_partings(talk.islands):
                broken = [rule for rule in talk.rules if not holds(rule, joined_by(parting))]
                self.assertEqual(broken_by(talk, parting), broken[0] if broken else None)

    def test_least_state(self):
        for talk in self.talks():
            known = states(talk)
            for parting in all_partings(talk.islands):
                self.assert_same(least_state(talk, parting), finest(known, joined_by(parting)))

    def test_join_states_and_what_both_join(self):
        for talk in self.talks():
            known = states(talk)
            for one, other in itertools.product(known[:20], known[-20:]):
                self.assertEqual(join_states(talk, one, other), finest(known, joined_by(one) | joined_by(other)))
                self.assertIn(both_join(one, other), known)

    def test_next_above_and_below(self):
        for talk in self.talks():
            known = states(talk)
            for state in known:
                joined = joined_by(state)
                above = [other for other in known if joined_by(other) > joined]
                below = [other for other in known if joined_by(other) < joined]
                self.assert_same(next_above(talk, state), [
                    other for other in above if not any(joined_by(mid) < joined_by(other) for mid in above)])
                self.assert_same(next_below(talk, state), [
                    other for other in below if not any(joined_by(mid) > joined_by(other) for mid in below)])

    def test_next_ones_of_unlike_sizes_ascend_by_comparison(self):
        ends = (tuple((name,) for name in NAMES[:4]), (NAMES[:4],))
        # Of each two, the lesser one by comparison first; in the one case it has more lots, in the other one less.
        for low, high in (((("a",), ("b", "c"), ("d",)), (("a", "b"), ("c", "d"))),
                          ((("a",), ("b", "c", "d")), (("a", "b"), ("c",), ("d",)))):
            talk = Talk(NAMES[:4], rules_for(NAMES[:4], (low, high)))
            self.assertEqual(states(talk), sorted((low, high, *ends)))
            self.assertEqual((next_below(talk, ends[1]), next_above(talk, ends[0])), ([low, high], [low, high]))
            for state in (low, high):
                self.assertEqual((next_below(talk, state), next_above(talk, state)), ([ends[0]], [ends[1]]))

    def test_counts_without_rules(self):
        for many in range(8):
            talk = Talk(LETTERS[:many])
            self.assertEqual(how_many_states(talk), COUNTS[many])
            found = all_states(talk)
            self.assertEqual((found, len(set(found))), (sorted(found), COUNTS[many]))
        self.assertEqual(len(next_above(Talk(LETTERS), tuple((name,) for name in LETTERS))), 66)
        self.assertEqual(len(next_below(Talk(LETTERS[:6]), (LETTERS[:6],))), 31)
        self.assertEqual(next_above(Talk(LETTERS), (LETTERS,)), [])


if __name__ == "__main__":
    unittest.main()
