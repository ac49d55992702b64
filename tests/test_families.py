"""Promise 6: families of PARTINGs, against the states of all Talks of three ISLANDs."""

import itertools
import random
import unittest

from lastfords.partings import all_states, are_told, both_join, rules_for, told_again
from lastfords.talks import Talk, is_rule
from tests.helpers import Case
from tests.reckoning import NAMES, all_partings, all_rules, holds, joined_by, small_talks, states, subsets

THREE = NAMES[:3]


def least_family(islands, partings):
    """Ends and PARTINGs, and what each two of them both join, until there is no more."""
    everything = all_partings(islands)
    found = {max(everything, key=lambda parting: len(joined_by(parting))),
             min(everything, key=lambda parting: len(joined_by(parting))), *partings}
    by_joined = {joined_by(parting): parting for parting in everything}
    while True:
        more = {by_joined[joined_by(one) & joined_by(other)] for one in found for other in found}
        if more <= found:
            return sorted(found)
        found |= more


class FamiliesCase(Case):

    def check_rules(self, islands, partings, family):
        rules = rules_for(islands, partings)
        self.assertIs(type(rules), tuple)
        self.assertTrue(all(is_rule(rule) for rule in rules))
        self.assertTrue({name for wants, gives in rules for pair in (*wants, gives) for name in pair} <= set(islands))
        self.assertLessEqual(len(rules), 50)
        self.assertEqual([parting for parting in all_partings(islands)
                          if all(holds(rule, joined_by(parting)) for rule in rules)], family)


class ThreeIslandsTest(FamiliesCase):

    def setUp(self):
        # With all nine RULEs of three ISLANDs each family is that of some Talk of these.
        rules = all_rules(THREE)
        self.families = {tuple(states(Talk(THREE, part))) for size in range(len(rules) + 1)
                         for part in itertools.combinations(rules, size)}

    def test_all_lots_of_partings(self):
        for partings in subsets(all_partings(THREE)):
            self.assertIs(are_told(THREE, partings), partings in self.families)
            [family] = [one for one in self.families if set(partings) <= set(one)
                        and all(set(one) <= set(other) for other in self.families if set(partings) <= set(other))]
            self.assert_same(told_again(THREE, partings), list(family))
            self.check_rules(THREE, partings, list(family))
            self.assertEqual(all_states(Talk(THREE, rules_for(THREE, partings))), list(family))

    def test_the_guarantee(self):
        for partings in subsets(all_partings(THREE)):
            ends = (("a", "b", "c"),) in partings and (("a",), ("b",), ("c",)) in partings
            both = all(both_join(one, other) in partings for one in partings for other in partings)
            self.assertIs(are_told(THREE, partings), ends and both)

    def test_any_order_and_doubled(self):
        for partings in subsets(all_partings(THREE)):
            turned = (*partings[::-1], *partings[:2])
            for function in (are_told, told_again):
                self.assertEqual(function(THREE, turned), function(THREE, partings))
            self.assertEqual(set(rules_for(THREE, turned)), set(rules_for(THREE, partings)))


class MoreIslandsTest(FamiliesCase):

    def test_few_islands(self):
        for islands, family in (((), [()]), (("x",), [(("x",),)]), (("x", "y"), [(("x",), ("y",)), (("x", "y"),)])):
            for partings in subsets(family):
                self.assertEqual(told_again(islands, partings), family)
                self.assertIs(are_told(islands, partings), list(partings) == family)
                self.assertEqual(rules_for(islands, partings), ())

    def test_states_of_talks_are_families(self):
        for talk in (*small_talks(THREE, 2), Talk.of("a b c d; a-b>c-d; a-c b-d>a-d"), Talk(NAMES)):
            known = tuple(states(talk))
            self.assertIs(are_told(talk.islands, known), True)
            self.assertEqual(told_again(talk.islands, known), list(known))
            self.check_rules(talk.islands, known, list(known))
            for gone in range(0, len(known), 3):
                left = known[:gone] + known[gone + 1:]
                self.assertIs(are_told(talk.islands, left), least_family(talk.islands, left) == list(left))

    def test_drawn_families(self):
        draw = random.Random(31)
        for islands, most in ((NAMES[:4], 15), (NAMES, 6), (NAMES, 52)):
            for _ in range(12):
                partings = tuple(draw.sample(all_partings(islands), draw.randint(0, most)))
                family = least_family(islands, partings)
                self.assertEqual(told_again(islands, partings), family)
                self.assertIs(are_told(islands, partings), sorted(partings) == family)
                self.assertIs(are_told(islands, family), True)
                self.check_rules(islands, partings, family)

    def test_the_least_and_the_greatest_family(self):
        known = all_partings(NAMES)
        self.assertEqual(told_again(NAMES, ()), [tuple((name,) for name in NAMES), (NAMES,)])
        self.check_rules(NAMES, (), [tuple((name,) for name in NAMES), (NAMES,)])
        self.assertEqual((told_again(NAMES, known), are_told(NAMES, known), rules_for(NAMES, known)),
                         (list(known), True, ()))


if __name__ == "__main__":
    unittest.main()
