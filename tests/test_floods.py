"""Promise 8: FLOODS, against all orders and against all FITs of small heights and waters."""

import functools
import itertools
import unittest

from lastfords.errors import NoNumber, NoOrder, Stuck
from lastfords.floods import (can_be, fewest_waters, fit_by, highest_floods, how_many_orders, is_fit, is_order, is_stuck,
                              least_stuck_lots, lowest_floods, nth_order, order_number, stuck_lot, waters)
from lastfords.talks import Talk
from tests import reckoning
from tests.helpers import Case
from tests.reckoning import NAMES, all_fords, drawn_talks, subsets

TOLD = (
    "-", "a", "a b", "-; x: - / -", "a; x: - / -; y: - / -", "a b; x: - / -", "a b c; a-b>b-c",
    "a b; x: a-b / a-b", "a b; x: a-b / a-b; y: a-b / -", "a b; x: a-b / -; y: - / a-b", "a b; x: a-b / -; y: a-b / -",
    "a b c; p: a-b / a-c; q: b-c / a-b; r: a-c / -", "a b c; x: a-b / -; y: - / b-c; z: a-c / a-b",
    "a b c; a-b>b-c; b-c>a-b; x: a-b / -; y: b-c / -; z: - / a-b b-c", "a b c; p: a-b / a-c; q: a-c / b-c; r: b-c / a-b",
    "a b c; a-b>a-c; p: a-b / b-c; q: - / -", "a b c; a-b>a-c; p: a-b / a-b; q: b-c / a-c; r: a-c / b-c")
FOUR_TOLD = (
    "a b c d; a-b>c-d; july: c-d / a-b; june: a-c / -; may: a-b / a-c", "a b c d; p: a-b / c-d; q: c-d / a-b; r: a-c / b-d",
    "a b c d; p: a-b c-d / a-c; q: a-b / c-d; r: - / a-b; s: a-b / -",
    "a b c d; a-b>c-d; p: a-b / c-d; q: a-c / b-d; r: b-d / a-c; s: a-d / -")


def plain_waters(fits):
    """The waters as the document tells them, of all FITs: as few as can be, each FLOOD at the lowest it can have."""
    fewest = min(len(set(levels.values())) for levels in fits)
    ranks = [{name: sorted(set(levels.values())).index(water) for name, water in levels.items()}
             for levels in fits if len(set(levels.values())) == fewest]
    least = {name: min(rank[name] for rank in ranks) for name in ranks[0]}
    return [tuple(sorted(name for name in least if least[name] == place)) for place in range(fewest)]


@functools.cache
def known_fits():
    """Some Talks, each with the waters of all its small FITs."""
    talks = [*map(Talk.of, TOLD), *drawn_talks(51, NAMES[:3], 100, 3, 3)]
    return [(talk, [levels for _, levels in reckoning.fits(talk)]) for talk in talks]


class FitsTest(Case):
    """Against FITs, as many heights and waters as there are FLOODS and one more."""

    def test_can_be(self):
        found = [bool(fits) for _, fits in known_fits()]
        self.assertGreater(min(found.count(True), found.count(False)), 20)
        for talk, fits in known_fits():
            self.assertIs(can_be(talk), bool(fits))
            self.assertIs(can_be(talk), not any(is_stuck(talk, names) for names in subsets(talk.names) if names))

    def test_waters(self):
        for talk, fits in known_fits():
            if fits:
                self.assert_same(waters(talk), plain_waters(fits))
                self.assertEqual(fewest_waters(talk), len(waters(talk)))
            else:
                self.assert_error(Stuck(stuck_lot(talk)), waters, talk)
                self.assert_error(Stuck(stuck_lot(talk)), fewest_waters, talk)

    def test_orders(self):
        for talk, fits in known_fits():
            found = sorted({tuple(sorted(levels, key=levels.get)) for levels in fits
                            if len(set(levels.values())) == len(levels)})
            self.assertEqual([nth_order(talk, number) for number in range(how_many_orders(talk))], found)
            self.assertIs(len(found) > 0, can_be(talk))

    def test_fits(self):
        for talk in (*map(Talk.of, TOLD), *drawn_talks(52, NAMES[:3], 20, 2, 2)):
            many = min(len(talk.floods), 2)
            for fords in all_fords(talk.islands, tuple(range(many + 2))):
                for row in itertools.product(range(many + 2), repeat=len(talk.names)):
                    levels = dict(zip(talk.names, row))
                    self.assertIs(is_fit(talk, (fords, tuple(levels.items()))),
                                  reckoning.is_fit(talk, fords, levels))


@functools.cache
def known_orders():
    """Some Talks, each with all its ORDERs."""
    talks = [*map(Talk.of, TOLD), *map(Talk.of, FOUR_TOLD), *drawn_talks(53, NAMES[:3], 60, 3, 5),
             *drawn_talks(54, NAMES[:4], 80, 4, 5), *drawn_talks(55, NAMES, 8, 6, 4)]
    return [(talk, reckoning.orders(talk)) for talk in talks]


class OrdersTest(Case):

    def test_numbers(self):
        for talk, found in known_orders():
            self.assertEqual(how_many_orders(talk), len(found))
            self.assertEqual([nth_order(talk, number) for number in range(len(found))], found)
            for number in (-1, -len(found), len(found), len(found) + 1, 10 ** 40, -10 ** 40):
                if not 0 <= number < len(found):
                    self.assert_error(NoNumber(number), nth_order, talk, number)

    def test_all_tuples_of_names(self):
        for talk, found in known_orders():
            names = (*talk.names, "zz")[:4]
            for size in range(min(len(names), 3) + 1):
                for order in itertools.product(names, repeat=size):
                    self.assertIs(is_order(talk, order), order in found)
            for order in itertools.permutations(talk.names):
                self.assertIs(is_order(talk, order), order in found)
                self.assertEqual(order_number(talk, order), found.index(order) if order in found else None)

    def test_fit_by(self):
        for talk, found in known_orders():
            for order in itertools.permutations(talk.names):
                if order not in found:
                    self.assert_error(NoOrder(), fit_by, talk, order)
                    continue
                fit = fit_by(talk, order)
                self.assertIs(is_fit(talk, fit), True)
                fords, levels = fit
                heights = dict(levels)
                self.assertTrue(reckoning.is_fit(talk, fords, heights))
                self.assertEqual(len(set(heights.values())), len(heights))
                self.assertEqual(tuple(sorted(heights, key=heights.get)), order)

    def test_first_and_last(self):
        for talk, found in known_orders():
            if found:
                self.assert_same(lowest_floods(talk), tuple(sorted({order[0] for order in found if order})))
                self.assert_same(highest_floods(talk), tuple(sorted({order[-1] for order in found if order})))
            else:
                self.assert_error(Stuck(stuck_lot(talk)), lowest_floods, talk)
                self.assert_error(Stuck(stuck_lot(talk)), highest_floods, talk)

    def test_who_can_be_first_stays_so(self):
        for talk, found in known_orders():
            if not found:
                continue
            for name in lowest_floods(talk):
                for left in subsets(talk.names):
                    if name in left:
                        less = Talk(talk.islands, talk.rules, [talk[other] for other in left])
                        self.assertIn(name, lowest_floods(less))

    def test_waters_by_orders(self):
        for talk, found in known_orders():
            if found:
                left = list(talk.names)
                for names in waters(talk):
                    less = Talk(talk.islands, talk.rules, [talk[name] for name in left])
                    self.assertEqual(names, tuple(sorted({order[0] for order in reckoning.orders(less)})))
                    left = [name for name in left if name not in names]
                self.assertEqual(left, [])


class StuckTest(Case):

    def test_all_lots(self):
        for talk, found in known_orders():
            lots = [names for names in subsets(talk.names) if reckoning.is_stuck(talk, names)]
            for names in subsets(talk.names):
                if names:
                    self.assertIs(is_stuck(talk, names), names in lots)
            greatest = max(lots, key=len, default=())
            self.assert_same(stuck_lot(talk), greatest)
            self.assertTrue(all(set(names) <= set(greatest) for names in lots))
            self.assert_same(least_stuck_lots(talk), sorted(
                names for names in lots if not any(set(other) < set(names) for other in lots)))
            self.assertIs(can_be(talk), not lots)
            self.assertIs(can_be(talk), bool(found))

    def test_joined_and_parted_in_one_flood(self):
        talk = Talk.of("a b c; p: a-b / -; q: a-c / a-c; r: - / a-b")
        self.assertEqual((can_be(talk), stuck_lot(talk), least_stuck_lots(talk), is_stuck(talk, ("q",))),
                         (False, ("q",), [("q",)], True))
        self.assertEqual((is_stuck(talk, ("p", "q")), is_stuck(talk, ("p",)), is_stuck(talk, ("q", "r"))),
                         (False, False, False))

    def test_several_least_lots(self):
        talk = Talk.of("a b c d; p: a-b / c-d; q: c-d / a-b; r: a-b / c-d; s: a-c / a-c; t: c-d / -")
        self.assertEqual(least_stuck_lots(talk), [("p", "q"), ("q", "r"), ("s",)])
        self.assertEqual(stuck_lot(talk), ("p", "q", "r", "s"))


if __name__ == "__main__":
    unittest.main()
