"""Promise 10, the least fords to be raised or sunk: against all ways and all lots of PAIRs."""

import functools
import itertools
import unittest

from lastfords.fords import (are_ways_apart, fewest_sunk, is_raised_way, is_sunk_pairs, islands_of, least_raise,
                             parting_at, raised_way, sunk_pairs, ways_apart, with_height)
from tests.helpers import Case
from tests.reckoning import NAMES, all_fords, joined_at
from tests.test_fords import drawn_fords, sides, ways_of

SMALL = ("a", "b", "c", "d")


@functools.cache
def some_fords():
    return [*all_fords(NAMES[:2], (0, 2)), *all_fords(NAMES[:3], (0, 1, 2)), *drawn_fords(11, NAMES[:4], 40, 3),
            *drawn_fords(12, ("aa", "b", "bc", "x"), 20, 6)]


def raised_by(heights, way, water):
    return sum(max(0, water + 1 - heights[side]) for side in sides(way))


def most_apart(ways):
    """The greatest number of ways of which no two share a side: each one is taken or left."""
    if not ways:
        return 0
    first, *others = ways
    taken = set(sides(first))
    return max(most_apart(others), 1 + most_apart([way for way in others if taken.isdisjoint(sides(way))]))


class RaiseTest(Case):

    def test_least_raise(self):
        for fords in (*some_fords(), *drawn_fords(13, NAMES, 20, 6)):
            heights, islands = dict(fords), islands_of(fords)
            for pair in heights:
                for water in range(5):
                    costs = {way: raised_by(heights, way, water) for way in ways_of(islands, pair)}
                    least = min(costs.values())
                    self.assert_same(least_raise(fords, pair, water), least)
                    self.assertIs(least == 0, pair in joined_at(fords, water))
                    self.assertEqual(costs[raised_way(fords, pair, water)], least)
                    for way in costs:
                        self.assertIs(is_raised_way(fords, pair, water, way), costs[way] == least)

    def test_all_raises(self):
        """No raises of less do it, on whatever fords."""
        for fords in (*all_fords(NAMES[:3], (0, 1, 2)), *drawn_fords(14, NAMES[:4], 5, 2)):
            for pair, _ in fords:
                for water in range(3):
                    least = least_raise(fords, pair, water)
                    for raises in itertools.product(range(3), repeat=len(fords)):
                        raised = tuple((side, height + more) for (side, height), more in zip(fords, raises))
                        if sum(raises) < least:
                            self.assertNotIn(pair, joined_at(raised, water))

    def test_great_heights(self):
        great = 10 ** 40
        fords = ((("a", "b"), great), (("a", "c"), 0), (("b", "c"), great - 7))
        self.assertEqual((least_raise(fords, ("a", "c"), great), raised_way(fords, ("a", "c"), great)), (9, ("a", "b", "c")))
        self.assertEqual((least_raise(fords, ("a", "c"), great - 8), least_raise(fords, ("a", "b"), great - 1)), (0, 0))
        self.assertEqual(least_raise(fords, ("a", "c"), great - 7), 1)


class SunkTest(Case):

    def test_fewest_sunk(self):
        for fords in some_fords():
            for pair, _ in fords:
                for water in range(4):
                    self.check_sunk(fords, pair, water)

    def check_sunk(self, fords, pair, water):
        pairs = [side for side, _ in fords]
        fewest = fewest_sunk(fords, pair, water)
        right = []
        for size in range(fewest + 2):
            for lot in itertools.combinations(pairs, size):
                left = tuple((side, 0 if side in lot else height) for side, height in fords)
                parts = pair not in joined_at(left, water)
                self.assertFalse(parts and size < fewest)
                self.assertIs(is_sunk_pairs(fords, pair, water, lot), parts and size == fewest)
                if parts and size == fewest:
                    right.append(lot)
        self.assertIn(sunk_pairs(fords, pair, water), right)

    def test_ways_apart(self):
        for fords in (*some_fords(), *drawn_fords(15, NAMES, 12, 3)):
            islands, heights = islands_of(fords), dict(fords)
            for pair in heights:
                for water in range(3):
                    ways = [way for way in ways_of(islands, pair) if all(heights[side] > water for side in sides(way))]
                    most = most_apart(ways)
                    self.assert_same(fewest_sunk(fords, pair, water), most)
                    found = ways_apart(fords, pair, water)
                    self.assertEqual(found, tuple(sorted(found)))
                    self.assertTrue(set(found) <= set(ways))
                    self.assertTrue(self.are_apart(found) and len(found) == most)
                    self.assertIs(are_ways_apart(fords, pair, water, found), True)

    def are_apart(self, ways):
        used = [side for way in ways for side in sides(way)]
        return len(set(used)) == len(used)

    def test_all_sets_of_ways(self):
        for fords in drawn_fords(16, SMALL, 20, 2):
            heights = dict(fords)
            for pair in heights:
                every = sorted(ways_of(SMALL, pair))
                most = len(ways_apart(fords, pair, 0))
                for size in range(most + 2):
                    for ways in itertools.combinations(every, size):
                        high = all(heights[side] > 0 for way in ways for side in sides(way))
                        expected = size == most and high and self.are_apart(ways)
                        self.assertIs(are_ways_apart(fords, pair, 0, ways), expected)

    def test_ways_that_must_be_given_back(self):
        # The shortest way goes over the middle; two ways apart must not.
        heights = {("a", "b"): 1, ("b", "c"): 1, ("c", "d"): 1, ("a", "e"): 1, ("b", "f"): 1, ("e", "g"): 1, ("c", "g"): 1,
                   ("d", "f"): 1}
        islands = tuple("abcdefg")
        fords = tuple(((one, other), heights.get((one, other), 0)) for one, other in itertools.combinations(islands, 2))
        self.assertEqual((fewest_sunk(fords, ("a", "d"), 0), len(ways_apart(fords, ("a", "d"), 0))), (2, 2))
        self.assertIs(are_ways_apart(fords, ("a", "d"), 0, ways_apart(fords, ("a", "d"), 0)), True)

    def test_drawn_sinks_do_part(self):
        for fords in drawn_fords(17, tuple("abcdefgh"), 15, 3):
            for pair, _ in fords[::5]:
                for water in range(3):
                    sunk = sunk_pairs(fords, pair, water)
                    self.assertEqual(len(sunk), len(ways_apart(fords, pair, water)))
                    self.assertIs(is_sunk_pairs(fords, pair, water, sunk), True)
                    left = fords
                    for side in sunk:
                        left = with_height(left, side, 0)
                    self.assertTrue(all(not set(pair) <= set(lot) for lot in parting_at(left, water)))


if __name__ == "__main__":
    unittest.main()
