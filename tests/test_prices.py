"""Promise 12: ITEMS and PRICES, against all sets of places."""

import functools
import itertools
import random
import unittest

from lastfords.closures import follows
from lastfords.errors import NoItem
from lastfords.prices import (cheapest_base, cheapest_free, cheapest_rules, frees, how_many_cheapest, items,
                              kept_or_out, least_bases, least_frees, rule_lots, stuck_items, without_items)
from lastfords.talks import Talk
from tests import reckoning
from tests.helpers import AB, AC, BC, Case
from tests.reckoning import NAMES, all_rules, closed, drawn_talks, subsets

TOLD = ("-", "a", "a b", "-; x: - / -", "a b; x: a-b / a-b", "a b; x: a-b / a-b; y: a-b / a-b", "a b c; a-b>b-c",
        "a b c; a-b>b-c; b-c>a-c; f: a-b / a-c; g: a-c / b-c", "a b c; a-b>a-c; a-b>b-c; a-c>b-c; b-c>a-b",
        "a b c; p: a-b / a-c; q: b-c / a-b; r: a-c / -", "a b c; p: a-b / a-c; q: a-c / b-c; r: b-c / a-b",
        "a b c d; a-b>c-d; p: a-b / c-d; q: c-d / a-b; r: a-c / b-d; s: b-d / a-c")


def plain_can_be(talk):
    return not any(reckoning.is_stuck(talk, names) for names in subsets(talk.names) if names)


def with_places(talk, places):
    """The Talk with the ITEMS at these places alone."""
    told = [*talk.rules, *talk.floods]
    chosen = [told[place] for place in places]
    return Talk(talk.islands, [item for item in chosen if len(item) == 2], [item for item in chosen if len(item) == 3])


def least(sets):
    """Those of the sets within which no other one lies, ascending."""
    return tuple(sorted(one for one in sets if not any(set(other) < set(one) for other in sets)))


@functools.cache
def known():
    """Some Talks, each with those sets of places whose ITEMS alone can be."""
    talks = [*map(Talk.of, TOLD), *drawn_talks(71, NAMES[:3], 60, 3, 3), *drawn_talks(72, NAMES[:4], 25, 3, 3)]
    return [(talk, {places for places in subsets(range(len(talk))) if plain_can_be(with_places(talk, places))})
            for talk in talks]


def others(talk, places):
    return tuple(place for place in range(len(talk)) if place not in places)


def drawn_prices(draw, many):
    return tuple(draw.choice((0, 1, 1, 2, 3, 10 ** 40)) for _ in range(many))


class ItemsTest(Case):

    def test_items(self):
        for talk, _ in known():
            self.assert_same(items(talk), (*talk.rules, *talk.floods))
            self.assertEqual(len(items(talk)), len(talk))

    def test_without_items(self):
        for talk, can in known():
            for places in subsets(range(len(talk))):
                self.assertEqual(without_items(talk, places), with_places(talk, others(talk, places)))
                self.assertIs(frees(talk, places), others(talk, places) in can)
                self.assertEqual(without_items(talk, list(places)), without_items(talk, places))

    def test_no_item(self):
        for talk, _ in known():
            many = len(talk)
            for places, wrong in (((many,), many), ((-1,), -1), ((-many - 1, 0), -many - 1), ((0, many + 3, many + 5), many + 3 if many else 0),
                                  ((-7, -5, many), -7), ((10 ** 40,), 10 ** 40), ((many, many + 1), many)):
                for function in (without_items, frees):
                    self.assert_error(NoItem(wrong), function, talk, places)
                    self.assert_error(NoItem(wrong), function, talk=talk, places=list(places))
            for place in (-1, many, -many - 1, 10 ** 40, -10 ** 40):
                self.assert_error(NoItem(place), kept_or_out, talk, (1,) * many, place)
                self.assert_error(NoItem(place), kept_or_out, talk=talk, prices=[1] * many, place=place)


class FreesTest(Case):

    def test_stuck_items(self):
        sizes = []
        for talk, can in known():
            stuck = least([places for places in subsets(range(len(talk))) if places not in can])
            self.assert_same(stuck_items(talk), stuck)
            self.assertIs(stuck_items(talk) == (), plain_can_be(talk))
            sizes.append(len(stuck))
        self.assertGreater(len(set(sizes)), 3)

    def test_least_frees(self):
        for talk, can in known():
            free = least([places for places in subsets(range(len(talk))) if others(talk, places) in can])
            self.assert_same(least_frees(talk), free)
            self.assertIs(free == ((),), plain_can_be(talk))

    def test_each_meets_all_of_the_other_ones(self):
        for talk, _ in known():
            stuck, free = stuck_items(talk), least_frees(talk)
            every = subsets(range(len(talk)))
            self.assertEqual(free, least([places for places in every if all(set(places) & set(lot) for lot in stuck)]))
            self.assertEqual(stuck, least([places for places in every if all(set(places) & set(lot) for lot in free)]))

    def test_prices(self):
        draw = random.Random(8)
        shared = 0
        for talk, _ in known():
            free = least_frees(talk)
            for prices in ((1,) * len(talk), (0,) * len(talk), *(drawn_prices(draw, len(talk)) for _ in range(3))):
                costs = {places: sum(prices[place] for place in places) for places in free}
                cheapest = min(costs.values())
                self.assert_same(cheapest_free(talk, prices), (cheapest, min(lot for lot in free if costs[lot] == cheapest)))
                self.assertEqual(cheapest_free(talk, list(prices)), cheapest_free(talk, prices))
                many = list(costs.values()).count(cheapest)
                self.assert_same(how_many_cheapest(talk, prices), many)
                shared += many > 1
                for place in range(len(talk)):
                    self.check_kept_or_out(talk, prices, place, costs, cheapest)
        self.assertGreater(shared, 20)

    def check_kept_or_out(self, talk, prices, place, costs, cheapest):
        kept = min([cost for lot, cost in costs.items() if place not in lot], default=None)
        out = min([cost - prices[place] for lot, cost in costs.items() if place in lot], default=None)
        self.assertEqual(kept_or_out(talk, prices, place), (kept, out))
        in_a_cheapest = any(place in lot and cost == cheapest for lot, cost in costs.items())
        self.assertIs(in_a_cheapest, out is not None and (kept is None or prices[place] <= kept - out))


class BasesTest(Case):

    def test_rule_lots(self):
        sizes = set()
        for talk, _ in known():
            parts = {places: Talk(talk.islands, [talk.rules[place] for place in places]) for places in subsets(range(len(talk.rules)))}
            for wants, gives in [*all_rules(talk.islands)[::3], *talk.rules, *(((pair,), pair) for pair in talk.pairs)]:
                lots = least([places for places, part in parts.items() if gives in closed(part, wants)])
                self.assert_same(rule_lots(talk, wants, gives), lots)
                self.assertIs(lots == (), not follows(talk, wants, gives))
                sizes.update(map(len, lots))
                prices = tuple(range(len(talk.rules), 0, -1))
                costs = [(sum(prices[place] for place in places), places) for places in lots]
                self.assert_same(cheapest_rules(talk, prices, wants, gives), min(costs, default=None))
        self.assertGreaterEqual(len(sizes), 3)

    def test_cheapest_rules_with_equal_prices(self):
        talk = Talk.of("a b c; a-b>a-c; a-b>b-c; a-c>b-c; x: a-b / a-b")
        self.assertEqual(rule_lots(talk, (AB,), BC), ((0,), (1,)))
        self.assertEqual(cheapest_rules(talk, (3, 3, 3), (AB,), BC), (3, (0,)))
        self.assertEqual(cheapest_rules(talk, [3, 2, 0], [["a", "b"]], ["b", "c"]), (2, (1,)))
        self.assertIsNone(cheapest_rules(talk, (0, 0, 0), (BC,), AB))
        self.assertEqual(cheapest_rules(talk, (5, 5, 5), (AB, AC), BC), (0, ()))

    def test_least_bases(self):
        sizes = set()
        draw = random.Random(9)
        for talk, _ in known():
            parts = {places: Talk(talk.islands, [talk.rules[place] for place in places]) for places in subsets(range(len(talk.rules)))}
            bases = least([places for places, part in parts.items()
                           if all(gives in closed(part, wants) for wants, gives in talk.rules)])
            self.assert_same(least_bases(talk), bases)
            prices = drawn_prices(draw, len(talk.rules))
            self.assert_same(cheapest_base(talk, prices), min((sum(prices[place] for place in places), places) for places in bases))
            sizes.add(len(bases))
        self.assertGreater(len(sizes), 1)

    def test_floods_are_not_looked_at(self):
        bare = Talk.of("a b c; a-b>a-c; a-b>b-c; a-c>b-c")
        wet = Talk.of(bare.text + "; x: a-b / a-b; y: a-c / -")
        for wants, gives in itertools.product(((AB,), (AC,), (AB, AC)), (AB, AC, BC)):
            self.assertEqual(rule_lots(wet, wants, gives), rule_lots(bare, wants, gives))
        self.assertEqual((least_bases(wet), cheapest_base(wet, (1, 2, 3))), (((0, 2), (1, 2)), (4, (0, 2))))

    def test_nothing_told(self):
        for talk in (Talk(), Talk(("a",)), Talk(("a", "b"))):
            self.assertEqual((items(talk), without_items(talk, ()), frees(talk, ())), ((), talk, True))
            self.assertEqual((stuck_items(talk), least_frees(talk), cheapest_free(talk, ()), how_many_cheapest(talk, ())),
                             ((), ((),), (0, ()), 1))
            self.assertEqual((least_bases(talk), cheapest_base(talk, ())), (((),), (0, ())))
        self.assertEqual((rule_lots(Talk(("a", "b")), (AB,), AB), cheapest_rules(Talk(("a", "b")), (), (AB,), AB)), (((),), (0, ())))


if __name__ == "__main__":
    unittest.main()
