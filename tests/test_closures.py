"""Promise 5: what follows, against all FORDS of three or four ISLANDs with small heights."""

import itertools
import unittest

from lastfords.closures import (alike_rules, closed_lots, closure, follows, fords_against, idle_rules,
                                is_fords_against, is_steps, least_wants, mates, never_later, parting_rule,
                                says_no_less, steps_to, thinned, told_of)
from lastfords.talks import Talk, is_rule
from tests.helpers import AB, AC, AD, BC, BD, CD, Case
from tests.reckoning import (NAMES, all_fords, all_partings, all_rules, drawn_talks, joined_by, keepers, keeps,
                             pairs_of, parted_water, sights, small_talks, subsets)

THREE, FOUR = NAMES[:3], NAMES[:4]


def seen_by(fords):
    """What is joined at some water of some of these FORDS."""
    return {joined for told in fords for joined in sights(told)}


def given_by(seen, wants):
    """The PAIRs that are joined whenever wants are."""
    return frozenset.intersection(*[joined for joined in seen if joined.issuperset(wants)])


class FollowsCase(Case):
    """Talks with what is seen of all their FORDS; no FLOOD is looked at."""

    def talks(self):
        for talk in (*small_talks(THREE, 2), *drawn_talks(11, THREE, 12, 6, 3)):
            yield talk, (0, 1, 2)
        for talk in drawn_talks(12, FOUR, 24, 5, 2):
            yield talk, (0, 1)

    def asked(self):
        """Each Talk, all wants, () among them, and the PAIRs that follow."""
        for talk, heights in self.talks():
            # The FORDS of one height above all waters: everything is joined.
            seen = seen_by(keepers(talk, heights)) | {frozenset(talk.pairs)}
            for wants in subsets(talk.pairs):
                yield talk, wants, given_by(seen, wants)


class ClosureTest(FollowsCase):

    def test_closure_and_closed_lots(self):
        for talk, wants, given in self.asked():
            self.assert_same(closure(talk, wants), tuple(sorted(given)))
            [parting] = [parting for parting in all_partings(talk.islands) if joined_by(parting) == given]
            self.assert_same(closed_lots(talk, wants), parting)

    def test_follows_exactly_if_gives_is_in_the_closure(self):
        for talk, wants, given in self.asked():
            for gives in talk.pairs:
                self.assertIs(follows(talk, wants, gives), gives in given)

    def test_two_heights_are_enough_to_show_what_does_not_follow(self):
        for talk in (*small_talks(THREE, 2), *drawn_talks(13, FOUR, 3, 4, 0)):
            seen = seen_by(keepers(talk, (0, 1)))
            more = seen_by(keepers(talk, (0, 1, 2)))
            for wants in subsets(talk.pairs):
                if any(joined.issuperset(wants) for joined in more):
                    self.assertEqual(given_by(seen | {frozenset(talk.pairs)}, wants),
                                     given_by(more | {frozenset(talk.pairs)}, wants))

    def test_steps(self):
        for talk, wants, given in self.asked():
            for gives in talk.pairs:
                steps = steps_to(talk, wants, gives)
                if gives not in given:
                    self.assertIsNone(steps)
                    self.assertIs(is_steps(talk, wants, gives, ()), False)
                else:
                    self.assertIs(type(steps), tuple)
                    self.assertIs(is_steps(talk, wants, gives, steps), True)
                    self.assertIs(is_steps(talk, wants, gives, ()), gives in wants)
                    self.assertIs(is_steps(talk, wants, gives, steps[:-1]), gives in wants)

    def test_fords_against(self):
        for talk, wants, given in self.asked():
            for gives in talk.pairs:
                fords = fords_against(talk, wants, gives)
                if gives in given:
                    self.assertIsNone(fords)
                else:
                    self.assertIs(is_fords_against(talk, wants, gives, fords), True)
                    self.assertEqual([pair for pair, _ in fords], list(talk.pairs))
                    self.assertTrue(all(keeps(fords, rule) for rule in talk.rules))
                    self.assertFalse(keeps(fords, (wants, gives)))

    def test_least_wants(self):
        for talk, heights in self.talks():
            seen = seen_by(keepers(talk, heights)) | {frozenset(talk.pairs)}
            for wants, gives in itertools.product(subsets(talk.pairs), talk.pairs):
                kept = list(wants)
                for want in wants:
                    others = [pair for pair in kept if pair != want]
                    if gives in given_by(seen, others):
                        kept = others
                follow = gives in given_by(seen, wants)
                self.assertEqual(least_wants(talk, wants, gives), tuple(kept) if follow else None)

    def test_least_wants_leaves_out_from_the_first_on(self):
        talk = Talk.of("a b c d; a-b>c-d; a-c>c-d; b-d>c-d")
        self.assertEqual(least_wants(talk, (AB, AC, BD), CD), (BD,))
        self.assertEqual(least_wants(talk, (AB, AC, AD), CD), (AC,))
        self.assertEqual(least_wants(talk, (AB, BD, CD), CD), (CD,))
        self.assertEqual(least_wants(talk, (AD, BC), CD), None)
        self.assertEqual(least_wants(Talk(FOUR), (AB, AC, BC, BD, CD), AD), (AC, CD))

    def test_is_fords_against_all_fords(self):
        for talk in small_talks(THREE, 2):
            for fords in all_fords(THREE, (0, 1, 2)):
                kept = all(keeps(fords, rule) for rule in talk.rules)
                for wants in subsets(talk.pairs):
                    for gives in talk.pairs:
                        self.assertIs(is_fords_against(talk, wants, gives, fords),
                                      kept and not keeps(fords, (wants, gives)))

    def test_is_fords_against_four_islands(self):
        for talk in drawn_talks(14, FOUR, 2, 2, 0):
            for fords in all_fords(FOUR, (0, 1, 3)):
                kept = all(keeps(fords, rule) for rule in talk.rules)
                for wants, gives in (((), AB), ((AB,), CD), ((AC, BC), AD), ((BD,), BD), ((AB, CD), AD)):
                    self.assertIs(is_fords_against(talk, wants, gives, fords),
                                  kept and not keeps(fords, (wants, gives)))


class RulesTest(FollowsCase):

    def test_idle_and_thinned(self):
        for talk, heights in self.talks():
            def says(rules, rule):
                return all(keeps(fords, rule) for fords in keepers(Talk(talk.islands, rules), heights))
            idle = [rule for rule in talk.rules if says([other for other in talk.rules if other != rule], rule)]
            self.assert_same(idle_rules(talk), tuple(idle))
            kept = list(talk.rules)
            for rule in talk.rules:
                others = [other for other in kept if other != rule]
                if says(others, rule):
                    kept = others
            self.assertEqual(thinned(talk), Talk(talk.islands, kept, talk.floods))

    def test_a_thinned_talk_says_the_same(self):
        for talk, heights in self.talks():
            thin = thinned(talk)
            self.assertEqual(keepers(thin, heights), keepers(talk, heights))
            self.assertEqual((idle_rules(thin), thin.floods), ((), talk.floods))
            self.assertIs(alike_rules(talk, thin), True)

    def test_never_later_and_mates(self):
        for talk, heights in self.talks():
            if len(talk.islands) == 4:
                continue
            told = [{pair: parted_water(fords, pair) for pair in talk.pairs} for fords in keepers(talk, heights)]
            for one, other in itertools.product(talk.pairs, repeat=2):
                self.assertIs(never_later(talk, one, other), all(last[one] <= last[other] for last in told))
            classes = {tuple(other for other in talk.pairs if all(last[one] == last[other] for last in told))
                       for one in talk.pairs}
            self.assert_same(mates(talk), tuple(sorted(part for part in classes if len(part) > 1)))

    def test_never_later_and_mates_of_four_islands(self):
        rings = (Talk.of("a b c d; a-b>c-d; a-c>b-d; b-d>a-c; c-d>a-b"),
                 Talk.of("a b c d; a-b>a-d; a-d>b-c; b-c>a-b"))
        self.assertEqual(mates(rings[0]), ((AB, CD), (AC, BD)))
        self.assertEqual(mates(rings[1]), ((AB, AD, BC),))
        for talk in (*rings, *drawn_talks(15, FOUR, 6, 6, 1)):
            told = [{pair: parted_water(fords, pair) for pair in talk.pairs} for fords in keepers(talk, (0, 1))]
            classes = {tuple(other for other in talk.pairs if all(last[one] == last[other] for last in told))
                       for one in talk.pairs}
            self.assertEqual(mates(talk), tuple(sorted(part for part in classes if len(part) > 1)))
            for one, other in itertools.product(talk.pairs, repeat=2):
                self.assertIs(never_later(talk, one, other), all(last[one] <= last[other] for last in told))


class TwoTalksTest(Case):

    def setUp(self):
        self.rules = all_rules(THREE)
        self.talks = [*small_talks(THREE, 2), *drawn_talks(16, THREE, 6, 5, 2)]
        # By the RULEs that follow, those of which gives is among wants are the same for all.
        self.told = [{rule for rule in self.rules if all(keeps(fords, rule) for fords in keepers(talk, (0, 1)))}
                     for talk in self.talks]

    def test_all_pairs_of_talks(self):
        for one, first in zip(self.talks, self.told):
            for other, second in zip(self.talks, self.told):
                self.assertIs(says_no_less(one, other), first >= second)
                self.assertIs(alike_rules(one, other), first == second)
                rule = parting_rule(one, other)
                if first == second:
                    self.assertIsNone(rule)
                else:
                    self.assertIs(is_rule(rule), True)
                    self.assertIn(rule, first ^ second)

    def test_floods_do_not_count(self):
        one, other = Talk.of("a b c; a-b>b-c; x: a-b / a-c"), Talk.of("a b c; a-b>b-c; y: - / a-b")
        self.assertEqual((says_no_less(one, other), alike_rules(one, other), parting_rule(one, other)),
                         (True, True, None))


class ToldOfTest(Case):

    def check(self, talk, islands):
        made = told_of(talk, islands)
        self.assertIs(type(made), Talk)
        self.assertEqual((made.islands, made.floods), (tuple(sorted(set(islands))), ()))
        pairs = pairs_of(made.islands)
        for wants in subsets(pairs):
            for gives in pairs:
                self.assertIs(follows(made, wants, gives), follows(talk, wants, gives))

    def test_all_islands_that_may_be_chosen(self):
        talks = (Talk.of("a b c d e x; a-b>c-x; d-e>d-x"),
                 Talk.of("a b c d e; a-b>d-e; a-c d-e>b-d; d-e>a-c; x: a-b / a-c"), Talk(NAMES), *drawn_talks(17, (*NAMES, "f"), 8, 8, 2))
        for talk in talks:
            for islands in (subset for subset in subsets(talk.islands) if len(subset) < 5):
                self.check(talk, islands)

    def test_five_islands_of_many(self):
        for talk in drawn_talks(18, (*NAMES, "f", "g", "h"), 4, 20, 0):
            for islands in (NAMES, ("b", "d", "e", "g", "h")):
                made = told_of(talk, islands)
                pairs = pairs_of(made.islands)
                for wants in subsets(pairs)[::7]:
                    self.assertEqual(closure(made, wants), tuple(
                        pair for pair in closure(talk, wants) if pair in pairs))

    def test_any_order_and_doubled(self):
        talk = Talk.of("a b c d; a-d>b-d; b-c>c-d; y: - / -")
        for islands in (("c", "a", "b"), ("a", "a", "b", "c", "b"), ["b", "c", "a", "a"]):
            self.check(talk, islands)
            self.assertEqual(told_of(talk, islands), told_of(talk, ("a", "b", "c")))
        self.check(talk, ("d", "c", "b", "a", "d"))

    def test_more_rules_than_a_talk_is_handed(self):
        talk = Talk.of("a b c d e m n o; a-b>b-n; a-e>e-o; a-m>a-b; b-n>c-d; c-d>a-m; d-o>d-e")
        self.check(talk, NAMES)


if __name__ == "__main__":
    unittest.main()
