"""Promises 2, 10 and 11: a parameter called thing may be any value, and only the values described give True."""

import itertools
import unittest

from lastfords.errors import NoIsland
from lastfords.fords import (are_ways_apart, is_bare, is_earlier_at, is_fords, is_lasts, is_raised_way, is_sunk_pairs,
                             is_widest_way)
from lastfords.looks import is_look, is_plan, is_sight, number_of_sight
from lastfords.talks import Talk
from tests import test_things
from tests.helpers import AB, AC, AD, BC, BD, CD
from tests.reckoning import NAMES, all_fords, joined_at, pairs_of, subsets
from tests.test_fords import plain_lasts, sides, ways_of
from tests.test_looks import all_plans, looks_of, plain_is_plan, plain_sights
from tests.test_things import WRONG, bent

MAP = ((AB, 5), (AC, 2), (AD, 1), (BC, 4), (BD, 3), (CD, 3))
LOW = ((AB, 5), (AC, 2), (AD, 1), (BC, 1), (BD, 3), (CD, 3))
TIES = ((AB, 1), (AC, 1), (BC, 1))


def plain_is_fords(thing):
    """Whether thing is FORDS: whether it is told alike as the FORDS of its ISLANDs and numbers."""
    try:
        islands = sorted({island for pair, _ in thing for island in pair})
        heights = [height for _, height in thing]
    except (TypeError, ValueError, AttributeError):
        return False
    if not all(type(island) is str and island.isalpha() and island == island.lower() and len(island) < 9 for island in islands):
        return False
    if not all(type(height) is int and height >= 0 for height in heights):
        return False
    return repr(thing) == repr(tuple(zip(pairs_of(islands), heights))) and len(heights) == len(pairs_of(islands))


class FordsThingsTest(test_things.ThingsCase):

    def test_is_fords(self):
        rights = [(), ((AB, 0),), ((("aa", "b"), 10 ** 60),), ((AB, 3), (AC, 0), (BC, 3)), MAP]
        self.check(is_fords, (), rights, plain_is_fords)
        for wrong in (((AB, 1), (CD, 1)), ((AB, 1), (AC, 1)), ((AB, 1), (BC, 1)), ((("a", "a"), 1),), ((("a", "abcdefghi"), 1),),
                      ((AB, 1), (AC, 1), (BC, 1), (("b", "d"), 1)), ((("A", "b"), 1),), ((AB, -1),), ((AB, 1), (AB, 1)), ((AB,),)):
            self.assertIs(is_fords(wrong), False)
            self.assertIs(is_lasts(wrong), False)

    def test_is_lasts(self):
        rights = [(), ((AB, 0),), ((AB, 7),), ((AB, 3), (AC, 1), (BC, 1)), TIES, ((AB, 2), (AC, 2), (AD, 1), (BC, 3), (BD, 1), (CD, 1))]
        self.check(is_lasts, (), rights, lambda thing: plain_is_fords(thing) and plain_lasts(thing) == dict(thing))

    def test_ways(self):
        for fords in (MAP, LOW, TIES):
            heights, islands = dict(fords), tuple(sorted({island for pair, _ in fords for island in pair}))
            for pair in (AB, AC, BC):
                water = plain_lasts(fords)[pair]
                ways = ways_of(islands, pair)
                wide = [way for way in ways if all(heights[side] >= water for side in sides(way))]
                self.check_all(is_widest_way, (fords, pair), wide)
                for high in (0, 4):
                    costs = {way: sum(max(0, high + 1 - heights[side]) for side in sides(way)) for way in ways}
                    self.check_all(is_raised_way, (fords, pair, high), [way for way in ways if costs[way] == min(costs.values())])

    def test_is_bare(self):
        for fords in (MAP, LOW, TIES, ((AB, 0),), ((AB, 0), (AC, 2), (BC, 0))):
            heights = dict(fords)
            alike = [less for less in ([(pair, heights[pair] if pair in kept else 0) for pair in heights] for kept in subsets(list(heights)))
                     if plain_lasts(tuple(less)) == plain_lasts(fords)]
            fewest = min(sum(height > 0 for _, height in less) for less in alike)
            self.check_all(is_bare, (fords,), sorted({tuple(less) for less in alike if sum(height > 0 for _, height in less) == fewest}))
        self.assertIs(is_bare((), ()), True)
        for wrong in WRONG:
            if wrong != () or type(wrong) is not tuple:
                self.assertIs(is_bare((), wrong), False)

    def test_is_earlier_at(self):
        for one, other in ((LOW, MAP), (((AB, 0),), ((AB, 3),)), (((AB, 0), (AC, 2), (BC, 0)), TIES)):
            rights = [(pair, water) for pair, _ in one for water in range(7)
                      if pair in joined_at(other, water) and pair not in joined_at(one, water)]
            self.check_all(is_earlier_at, (one, other), rights)
        for thing in ((AB, 0), *WRONG):
            self.assertIs(is_earlier_at(MAP, MAP, thing), False)

    def test_is_sunk_pairs(self):
        for fords in (MAP, TIES, ((AB, 2),)):
            pairs = [pair for pair, _ in fords]
            for pair in pairs[:2]:
                for water in (0, 1, 2):
                    parting = [lot for lot in subsets(pairs) if pair not in joined_at(
                        tuple((side, 0 if side in lot else height) for side, height in fords), water)]
                    fewest = min(map(len, parting))
                    self.check_all(is_sunk_pairs, (fords, pair, water), [lot for lot in parting if len(lot) == fewest])

    def test_are_ways_apart(self):
        for fords in (MAP, TIES):
            islands = tuple(sorted({island for pair, _ in fords for island in pair}))
            for pair, water in itertools.product((AB, AC), (0, 1, 5)):
                ways = sorted(way for way in ways_of(islands, pair) if all(dict(fords)[side] > water for side in sides(way)))
                apart = [lot for lot in subsets(ways) if len({side for way in lot for side in sides(way)}) == sum(len(way) - 1 for way in lot)]
                most = max(map(len, apart))
                self.check_all(are_ways_apart, (fords, pair, water), [lot for lot in apart if len(lot) == most])

    def test_no_island_ahead_of_thing(self):
        for thing in (*WRONG, ("a", "b"), ("a", "q"), (AB,), (("a", "b"),)):
            for pair, name in ((("a", "q"), "q"), (("p", "q"), "p"), (("aa", "b"), "aa")):
                self.assert_error(NoIsland(name), is_widest_way, MAP, pair, thing)
                for function in (is_raised_way, is_sunk_pairs, are_ways_apart):
                    self.assert_error(NoIsland(name), function, MAP, pair, 0, thing)
            self.assert_error(NoIsland("a"), is_widest_way, (), AB, thing)


class LooksThingsTest(test_things.ThingsCase):

    TOLD = ("-", "-; x: - / -", "a b; x: a-b / -", "a b; x: - / -; y: - / -", "a b c; f: a-b / a-c; g: - / -",
            "a b c; a-b>b-c; x: - / a-b; y: a-c / -", "a b; x: - / -; y: - / -; z: - / -")

    def test_is_look(self):
        for text in self.TOLD:
            talk = Talk.of(text)
            self.check_all(is_look, (talk,), looks_of(talk))
            for thing in (("x", ("a", "q")), ("q", AB), ("x", ("b", "a")), ("x", ["a", "b"]), (AB, "x"), ("x", AB, AB), *WRONG):
                self.assertIs(is_look(talk, thing), False)

    def test_is_sight_and_its_number(self):
        for text in self.TOLD:
            talk = Talk.of(text)
            sights = plain_sights(talk)
            self.check_all(is_sight, (talk,), sights)
            texts = [repr(sight) for sight in sights]
            for sight in sights[::max(1, len(sights) // 5)]:
                for thing in (sight, list(sight), *bent(sight), *WRONG):
                    expected = texts.index(repr(thing)) if repr(thing) in texts else None
                    self.assertEqual(number_of_sight(talk, thing), expected)
                    self.assertEqual(number_of_sight(talk=talk, thing=thing), expected)

    def test_is_plan(self):
        for text in self.TOLD:
            talk = Talk.of(text)
            sights = plain_sights(talk)
            plans = all_plans(talk, sights)
            for place in range(0, len(plans), max(1, len(plans) // 3)):
                self.check(is_plan, (talk,), plans[place:place + 1], lambda thing: plain_is_plan(talk, sights, thing))

    def test_fords_of_three(self):
        """Nothing but FORDS of just these ISLANDs is bare."""
        for fords in all_fords(NAMES[:3], (0, 1)):
            for thing in (((AB, 1),), (), ((AB, 1), (AC, 1)), (*TIES, (AD, 0)), all_fords(("a", "b", "d"), (0,))[0]):
                self.assertIs(is_bare(fords, thing), False)


if __name__ == "__main__":
    unittest.main()
