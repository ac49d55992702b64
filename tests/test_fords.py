"""Promise 10: FORDS of told heights, against all ways, all lots of PAIRs and all waters."""

import functools
import itertools
import random
import unittest

from lastfords.errors import OtherIslands
from lastfords.fords import (bare_fords, broken_at, earlier_at, fits_talk, flood_waters, fords_keep, height_of,
                             how_many_fords, idle_pairs, is_bare, is_earlier_at, is_fords, is_lasts, is_widest_way,
                             islands_of, lasts_of, misfit, never_earlier, parting_at, parting_water, same_lasts,
                             turning_waters, widest_way, with_height)
from lastfords.partings import pairs_joined
from lastfords.talks import Talk
from tests import reckoning
from tests.helpers import AB, AC, BC, Case
from tests.reckoning import NAMES, all_fords, all_rules, drawn_talks, joined_at, pairs_of, parted_water, shows, subsets


def drawn_fords(seed, islands, many, top):
    """So many FORDS of the ISLANDs, the same for the same numbers."""
    draw = random.Random(seed)
    pairs = pairs_of(islands)
    return [tuple((pair, draw.randint(0, top)) for pair in pairs) for _ in range(many)]


@functools.cache
def some_fords():
    """All of three ISLANDs with small heights, and some of up to five."""
    return [(), *all_fords(NAMES[:2], (0, 1, 5)), *all_fords(NAMES[:3], (0, 1, 2, 3)), *all_fords(NAMES[:4], (0, 1, 2))[::7],
            *drawn_fords(1, NAMES[:4], 60, 4), *drawn_fords(2, NAMES, 60, 5), *drawn_fords(3, ("aa", "b", "bc", "x"), 20, 9)]


def ways_of(islands, pair):
    """All ways of the PAIR."""
    others = [island for island in islands if island not in pair]
    return [(pair[0], *part, pair[1]) for size in range(len(others) + 1) for part in itertools.permutations(others, size)]


def sides(way):
    return [tuple(sorted(side)) for side in zip(way, way[1:])]


@functools.cache
def plain_lasts(fords):
    """Of each PAIR the least water at which it is parted: by going all waters."""
    return {pair: parted_water(fords, pair) for pair, _ in fords}


class WaysTest(Case):

    def test_parting_water(self):
        for fords in some_fords():
            heights, islands = dict(fords), islands_of(fords)
            for pair in heights:
                widest = max(min(heights[side] for side in sides(way)) for way in ways_of(islands, pair))
                self.assert_same(parting_water(fords, pair), widest)
                self.assertEqual(widest, plain_lasts(fords)[pair])
                self.assert_same(height_of(fords, pair), heights[pair])

    def test_widest_way(self):
        for fords in some_fords():
            heights, islands = dict(fords), islands_of(fords)
            for pair in heights:
                water = plain_lasts(fords)[pair]
                wide = [way for way in ways_of(islands, pair) if min(heights[side] for side in sides(way)) == water]
                self.assertIn(widest_way(fords, pair), wide)
                for way in ways_of(islands, pair):
                    self.assertIs(is_widest_way(fords, pair, way), way in wide)

    def test_parting_at_and_turning_waters(self):
        for fords in some_fords():
            turning = []
            top = max([height for _, height in fords], default=0)
            for water in range(top + 2):
                found = parting_at(fords, water)
                self.assertEqual(pairs_joined(found), tuple(sorted(joined_at(fords, water))))
                self.assertEqual(tuple(sorted(island for lot in found for island in lot)), islands_of(fords))
                if water > 0 and joined_at(fords, water) != joined_at(fords, water - 1):
                    turning.append(water)
            self.assert_same(turning_waters(fords), tuple(turning))

    def test_lasts(self):
        for fords in some_fords():
            lasts = tuple((pair, plain_lasts(fords)[pair]) for pair, _ in fords)
            self.assert_same(lasts_of(fords), lasts)
            self.assertIs(is_lasts(fords), fords == lasts)
            self.assertIs(is_lasts(lasts), True)
            heights = dict(fords)
            between = all(heights[one] >= min(heights[other], heights[third])
                          for island in itertools.combinations(islands_of(fords), 3)
                          for one, other, third in itertools.permutations(pairs_of(island)))
            self.assertIs(is_lasts(fords), between)

    def test_islands_and_heights(self):
        for fords in some_fords():
            self.assertIs(is_fords(fords), True)
            self.assertEqual(islands_of(fords), tuple(sorted({island for pair, _ in fords for island in pair})))
            for pair, height in fords:
                for other in (0, height, height + 3, 10 ** 40):
                    changed = with_height(fords, pair, other)
                    self.assertEqual(dict(changed), {**dict(fords), pair: other})
                    self.assertIs(is_fords(changed), True)
                self.assertEqual(with_height(fords, pair, height), fords)


class AlikeTest(Case):

    def test_idle_pairs(self):
        for fords in some_fords():
            idle = tuple(pair for pair, _ in fords
                         if plain_lasts(with_height(fords, pair, 0)) == plain_lasts(fords))
            self.assert_same(idle_pairs(fords), idle)

    def test_bare_fords(self):
        for fords in some_fords():
            if len(fords) > 6:
                continue
            pairs = [pair for pair, height in fords if height > 0]
            alike = []
            for kept in subsets(pairs):
                less = tuple((pair, height if pair in kept else 0) for pair, height in fords)
                if plain_lasts(less) == plain_lasts(fords):
                    alike.append((len(kept), less))
            fewest = min(many for many, _ in alike)
            bare = [less for many, less in alike if many == fewest]
            self.assertIn(bare_fords(fords), bare)
            for _, less in alike:
                self.assertIs(is_bare(fords, less), less in bare)
            for other in (fords, *some_fords()[::9], *(with_height(bare[0], pair, height) for pair, _ in fords for height in range(4))):
                self.assertIs(is_bare(fords, other), other in bare)

    def test_how_many_fords(self):
        for islands, top in (((), 0), (NAMES[:2], 4), (NAMES[:3], 3), (NAMES[:4], 2)):
            known = all_fords(islands, tuple(range(top + 1)))
            counts = {}
            for fords in known:
                lasts = lasts_of(fords)
                counts[lasts] = counts.get(lasts, 0) + 1
            for lasts, many in counts.items():
                self.assert_same(how_many_fords(lasts), many)
            self.assertEqual(sum(counts.values()), len(known))

    def test_how_many_fords_of_one_height(self):
        # All of one height: those of this height make one lot of all, as connected graphs count 1, 1, 4, 38, 728, ..
        for many, graphs in ((2, 1), (3, 4), (4, 38), (5, 728), (6, 26704), (7, 1866256)):
            islands = tuple("abcdefg"[:many])
            self.assertEqual(how_many_fords(tuple((pair, 1) for pair in pairs_of(islands))), graphs)
            self.assertEqual(how_many_fords(tuple((pair, 0) for pair in pairs_of(islands))), 1)

    def test_two_fords(self):
        found = []
        groups = [some for some in (all_fords(NAMES[:3], (0, 1, 2)), all_fords(NAMES[:2], (0, 1, 5)), [()],
                                    drawn_fords(4, NAMES[:4], 25, 3))]
        for one, other in [pair for group in groups for pair in itertools.product(group, repeat=2)]:
            first, second = plain_lasts(one), plain_lasts(other)
            never = all(first[pair] >= second[pair] for pair in first)
            self.assertIs(same_lasts(one, other), first == second)
            self.assertIs(never_earlier(one, other), never)
            earlier = [(pair, water) for pair in first for water in range(7)
                       if pair not in joined_at(one, water) and pair in joined_at(other, water)]
            self.assertIs(earlier_at(one, other) is None, not earlier)
            if earlier:
                self.assertIn(earlier_at(one, other), earlier)
            for pair in first:
                for water in range(7):
                    self.assertIs(is_earlier_at(one, other, (pair, water)), (pair, water) in earlier)
            found.append(never)
        self.assertGreater(min(found.count(True), found.count(False)), 300)

    def test_other_islands(self):
        one, other, third = ((AB, 1),), ((AC, 1),), all_fords(NAMES[:3], (1,))[0]
        for function in (same_lasts, never_earlier, earlier_at):
            for first, second in itertools.permutations((one, other, third, ()), 2):
                self.assert_error(OtherIslands(), function, first, second)
        for thing in (None, (), (AB, 0), (AB, True), [AB, 0]):
            self.assert_error(OtherIslands(), is_earlier_at, one, other, thing)


class ToldTest(Case):

    def test_rules(self):
        for fords in some_fords():
            if len(fords) == 3:
                for wants, gives in all_rules(NAMES[:3]):
                    self.check_rule(fords, wants, gives)
                self.check_rule(fords, (AB,), AB)
            elif len(fords) == 6 and islands_of(fords) == NAMES[:4]:
                for wants, gives in all_rules(NAMES[:4])[::23]:
                    self.check_rule(fords, wants, gives)

    def check_rule(self, fords, wants, gives):
        broken = [water for water in range(12) if joined_at(fords, water).issuperset(wants)
                  and gives not in joined_at(fords, water)]
        self.assertIs(fords_keep(fords, wants, gives), not broken)
        self.assertEqual(broken_at(fords, wants, gives), broken[0] if broken else None)

    def test_flood_waters(self):
        for fords in some_fords():
            some = subsets([pair for pair, _ in fords])
            some = some[::max(1, len(some) // 8)]
            top = max([height for _, height in fords], default=0) + 2
            for joined, parted in itertools.product(some, repeat=2):
                standing = [water for water in range(top + 1) if shows(("x", joined, parted), joined_at(fords, water))]
                expected = (standing[0], None if standing[-1] == top else standing[-1]) if standing else None
                self.assert_same(flood_waters(fords, ("x", joined, parted)), expected)
                self.assertEqual(standing, list(range(standing[0], standing[-1] + 1)) if standing else [])

    def test_misfit(self):
        found = []
        for talk in (*drawn_talks(5, NAMES[:3], 60, 3, 3), Talk(), Talk(("a",)), Talk.of("a; x: - / -"), Talk.of("a b; x: a-b / a-b")):
            for fords in all_fords(talk.islands, (0, 1, 2, 3)):
                broken = [rule for rule in talk.rules if not reckoning.keeps(fords, rule)]
                barred = [flood[0] for flood in talk.floods if flood_waters(fords, flood) is None]
                expected = [*broken, *barred, None][0]
                self.assert_same(misfit(talk, fords), expected)
                self.assertIs(fits_talk(talk, fords), expected is None)
                found.append(type(expected))
        self.assertGreater(min(map(found.count, (tuple, str, type(None)))), 100)

    def test_misfit_tells_the_least(self):
        talk = Talk.of("a b c; a-b>b-c; a-c>b-c; x: b-c / a-c; y: a-b / b-c; z: b-c / a-b")
        self.assertEqual(misfit(talk, ((AB, 2), (AC, 1), (BC, 1))), ((AB,), BC))
        self.assertEqual(misfit(talk, ((AB, 1), (AC, 2), (BC, 1))), ((AC,), BC))
        self.assertEqual(misfit(talk, ((AB, 1), (AC, 1), (BC, 2))), "y")
        self.assertEqual(misfit(talk, ((AB, 1), (AC, 1), (BC, 1))), "x")

    def test_fords_of_other_islands_do_not_fit(self):
        three = all_fords(NAMES[:3], (1,))[0]
        for talk in (Talk(), Talk(("a",)), Talk(("a", "b")), Talk(("a", "b", "d")), Talk(NAMES[:4])):
            for function in (misfit, fits_talk):
                self.assert_error(OtherIslands(), function, talk, three)
        for function in (misfit, fits_talk):
            self.assert_error(OtherIslands(), function, Talk(("a", "b")), ())
        self.assertEqual((misfit(Talk(), ()), misfit(Talk(("q",)), ())), (None, None))
        self.assertEqual((fits_talk(Talk(), ()), fits_talk(Talk.of("q; x: - / -"), ())), (True, True))


class EmptyTest(Case):

    def test_no_fords(self):
        self.assertEqual((is_fords(()), islands_of(()), parting_at((), 0), turning_waters(()), lasts_of(()), is_lasts(())),
                         (True, (), (), (), (), True))
        self.assertEqual((idle_pairs(()), bare_fords(()), is_bare((), ()), how_many_fords(()), same_lasts((), ()),
                          never_earlier((), ()), earlier_at((), ())), ((), (), True, 1, True, True, None))
        self.assertEqual((is_earlier_at((), (), (AB, 0)), flood_waters((), ("x", (), ()))), (False, (0, None)))

    def test_one_pair(self):
        for height in (0, 1, 10 ** 40):
            fords = ((AB, height),)
            self.assertEqual((parting_water(fords, AB), widest_way(fords, AB), lasts_of(fords)), (height, ("a", "b"), fords))
            self.assertEqual((idle_pairs(fords), bare_fords(fords)), (() if height else (AB,), fords))
            self.assertEqual((turning_waters(fords), how_many_fords(fords)), ((height,) if height else (), 1))
            self.assertEqual(flood_waters(fords, ("x", (AB,), ())), (0, height - 1) if height else None)
            self.assertEqual(flood_waters(fords, ("x", (), (AB,))), (height, None))
            self.assertEqual((parting_at(fords, height), fords_keep(fords, (AB,), AB)), ((("a",), ("b",)), True))


if __name__ == "__main__":
    unittest.main()
