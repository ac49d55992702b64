"""Promise 7: histories, against all chains of states of few ISLANDs."""

import collections
import fractions
import functools
import itertools
import unittest

from lastfords.errors import NoNumber, NoStart
from lastfords.risings import (fords_in, histories_behind, histories_with, history_at, how_many_histories, is_history,
                               lengths, longest, next_states, number_of_history, parted_at, parted_first, partings_by,
                               possible_states, share_with, shortest, some_longest, some_shortest, sure_states)
from lastfords.talks import Talk
from tests.helpers import Case
from tests.reckoning import (NAMES, all_fords, all_partings, drawn_talks, histories, joined_at, joined_by, shows,
                             small_talks, states)

FLOODED = (
    "a b c; x: a-b / a-c; y: a-c / a-b", "a b c; x: a-b / a-b", "a b; x: a-b / -; y: - / a-b", "a b; x: a-b / a-b",
    "-; x: - / -", "a; x: - / -; y: - / -", "a b c d; w: a-b / c-d; x: b-c / a-d; y: - / a-b; z: a-b c-d / a-c",
    "a b c d; w: a-b / c-d; x: c-d / a-b", "a b c; a-b>b-c; high: b-c / a-b", "a b c; a-b>b-c; x: a-b / b-c",
    "a b c d; a-b>c-d; c-d>a-b; x: a-b / a-c; y: - / a-b", "a b c d; x: a-b / c-d; y: a-b c-d / b-c")


def parted_place(history, pair):
    """The place of the first member that does not join the PAIR."""
    return [pair in joined_by(state) for state in history].index(False)


@functools.cache
def known_histories():
    """Some Talks, each with all its histories."""
    talks = [Talk(), Talk(("a",)), Talk(("a", "b")), Talk(NAMES[:4]), *map(Talk.of, FLOODED),
             *small_talks(NAMES[:3], 1), *drawn_talks(41, NAMES[:3], 60, 3, 4),
             *drawn_talks(42, NAMES[:4], 40, 4, 4), *drawn_talks(43, NAMES, 3, 6, 2)]
    return [(talk, histories(talk)) for talk in talks]


class HistoriesCase(Case):

    def setUp(self):
        self.known = known_histories()


class NumbersTest(HistoriesCase):

    def test_the_talks_are_of_many_kinds(self):
        counts = collections.Counter(min(len(found), 2) for _, found in self.known)
        self.assertTrue(all(counts[many] >= 5 for many in range(3)))

    def test_how_many_and_their_numbers(self):
        for talk, found in self.known:
            self.assertEqual(how_many_histories(talk), len(found))
            self.assertEqual([history_at(talk, number) for number in range(len(found))], found)
            for number in (-1, -len(found), len(found), len(found) + 1, 10 ** 40, -10 ** 40):
                if not 0 <= number < len(found):
                    self.assert_error(NoNumber(number), history_at, talk, number)
            for number, history in enumerate(found):
                self.assertIs(is_history(talk, history), True)
                self.assertEqual(number_of_history(talk, history), number)

    def test_all_chains_of_partings(self):
        for talk, found in self.known:
            if len(talk.islands) > 3:
                continue
            for size in range(5):
                for chain in itertools.product(all_partings(talk.islands), repeat=size):
                    self.assertIs(is_history(talk, chain), chain in found)
                    self.assertEqual(number_of_history(talk, chain), found.index(chain) if chain in found else None)

    def test_lengths(self):
        for talk, found in self.known:
            sizes = collections.Counter(len(history) for history in found)
            self.assert_same(lengths(talk), sorted(sizes.items()))
            self.assertEqual((shortest(talk), longest(talk)), (min(sizes, default=None), max(sizes, default=None)))
            if found:
                self.assertIn(some_shortest(talk), [history for history in found if len(history) == min(sizes)])
                self.assertIn(some_longest(talk), [history for history in found if len(history) == max(sizes)])
            else:
                self.assertEqual((some_shortest(talk), some_longest(talk)), (None, None))

    def test_counts_without_rules(self):
        # So many chains are there from all in one lot to each alone.
        self.assertEqual([how_many_histories(Talk(NAMES[:many])) for many in range(6)], [1, 1, 1, 4, 32, 436])


class BegunTest(HistoriesCase):

    def test_all_beginnings(self):
        for talk, found in self.known:
            begins = {history[:size] for history in found for size in range(len(history) + 1)} | {()}
            for begun in sorted(begins)[:60]:
                behind = [history for history in found if history[:len(begun)] == begun]
                following = sorted({history[len(begun)] for history in behind if len(history) > len(begun)})
                self.assert_same(next_states(talk, begun), following)
                self.assertEqual(histories_behind(talk, begun), len(behind))

    def test_what_is_no_beginning(self):
        for talk, found in self.known:
            begins = {history[:size] for history in found for size in range(len(history) + 1)} | {()}
            for begun in sorted(begins)[:7]:
                for place, parting in enumerate(all_partings(talk.islands)[:16]):
                    if (*begun, parting) not in begins:
                        wrong = (*begun, parting, *((), begun[:1], (parting, parting))[place % 3])
                        self.assert_error(NoStart(len(begun)), next_states, talk, wrong)
                        self.assert_error(NoStart(len(begun)), histories_behind, talk, wrong)


class StatesTest(HistoriesCase):

    def test_histories_with(self):
        for talk, found in self.known:
            known = states(talk)[:6] + states(talk)[-6:]
            for size in range(3):
                for chosen in itertools.product(known, repeat=size):
                    self.assertEqual(histories_with(talk, chosen),
                                     len([history for history in found if set(chosen) <= set(history)]))
            for history in found[:3]:
                turned = (*history, history[0])[::-1][:4]
                self.assertEqual(histories_with(talk, turned),
                                 len([other for other in found if set(turned) <= set(other)]))

    def test_share_with(self):
        for talk, found in self.known:
            for state in states(talk):
                share = share_with(talk, state)
                if not found:
                    self.assertIsNone(share)
                else:
                    plain = fractions.Fraction(len([history for history in found if state in history]), len(found))
                    self.assert_same(share, (plain.numerator, plain.denominator))

    def test_possible_and_sure(self):
        for talk, found in self.known:
            self.assert_same(possible_states(talk), tuple(sorted({state for history in found for state in history})))
            sure = tuple(state for state in states(talk) if all(state in history for history in found))
            self.assertEqual(sure_states(talk), sure if found else None)


class PartedTest(HistoriesCase):

    def test_parted_at(self):
        for talk, found in self.known:
            for pair in talk.pairs:
                places = collections.Counter(parted_place(history, pair) for history in found)
                self.assert_same(parted_at(talk, pair), sorted(places.items()))

    def test_parted_first(self):
        for talk, found in self.known:
            for one, other in itertools.product(talk.pairs, repeat=2):
                ways = [(parted_place(history, one), parted_place(history, other)) for history in found]
                self.assert_same(parted_first(talk, one, other), (
                    len([way for way in ways if way[0] < way[1]]), len([way for way in ways if way[0] == way[1]]),
                    len([way for way in ways if way[0] > way[1]])))


class FordsTest(HistoriesCase):

    def test_fords_in(self):
        for _, found in self.known:
            for history in found[:60]:
                islands = tuple(sorted(name for lot in history[0] for name in lot))
                fords = fords_in(history)
                self.assert_same(fords, tuple((pair, len([state for state in history if pair in joined_by(state)]))
                                              for pair in itertools.combinations(islands, 2)))
                self.assertEqual(partings_by(islands, fords), history)

    def test_partings_by(self):
        for islands, heights in ((NAMES[:1], (0,)), (NAMES[:2], (0, 1, 5)), (NAMES[:3], (0, 1, 3, 4)),
                                 (NAMES[:4], (0, 2, 3))):
            for fords in all_fords(islands, heights):
                seen = []
                for water in range(6):
                    [parting] = [one for one in all_partings(islands) if joined_by(one) == joined_at(fords, water)]
                    if parting not in seen:
                        seen.append(parting)
                self.assert_same(partings_by(islands, fords), tuple(seen))

    def test_partings_by_great_heights(self):
        great = 10 ** 40
        fords = ((("a", "b"), great), (("a", "c"), great - 1), (("b", "c"), 0))
        self.assertEqual(partings_by(("a", "b", "c"), fords), (
            (("a", "b", "c"),), (("a", "b"), ("c",)), (("a",), ("b",), ("c",))))
        self.assertEqual(partings_by(("a", "b"), ((("a", "b"), 0),)), ((("a",), ("b",)),))

    def test_each_flood_is_shown_by_some_member(self):
        for talk, found in self.known:
            for history in found[:40]:
                for flood in talk.floods:
                    self.assertTrue(any(shows(flood, joined_by(state)) for state in history))


if __name__ == "__main__":
    unittest.main()
