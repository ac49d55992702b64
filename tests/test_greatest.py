"""Promise 3: the greatest arguments that points 5 to 8 allow; no answer may take many seconds."""

import itertools
import random
import time
import unittest

from lastfords import closures, floods, partings, risings
from lastfords.talks import Talk
from tests.helpers import Case
from tests.reckoning import drawn_rule, pairs_of

LETTERS = tuple("abcdefghijkl")
SECONDS = 5


def drawn_talk(seed, many, rules, told):
    """A Talk of so many ISLANDs, RULEs and FLOODS, the same for the same numbers."""
    draw = random.Random(seed)
    pairs = pairs_of(LETTERS[:many])
    kept = set()
    while len(kept) < rules:
        kept.add(drawn_rule(draw, pairs))
    return Talk(LETTERS[:many], sorted(kept), [
        (f"f{letter}", tuple(sorted(draw.sample(pairs, 3))), tuple(sorted(draw.sample(pairs, 2))))
        for letter in LETTERS[:told]])


class GreatestCase(Case):

    def asked(self, function, *given):
        """What the function tells, soon enough."""
        begun = time.perf_counter()
        found = function(*given)
        self.assertLess(time.perf_counter() - begun, SECONDS, function)
        return found


class ClosuresTest(GreatestCase):

    def test_twelve_islands(self):
        # A chain in which each RULE needs the one ahead of it, told from the last one on.
        ring = list(zip(LETTERS, LETTERS[1:]))
        rules = [((one,), other) for one, other in zip(ring, ring[1:])]
        chain = Talk(LETTERS, rules)
        ends = (LETTERS[0], LETTERS[-1])
        self.assertEqual(self.asked(closures.closure, chain, (ring[0],)), pairs_of(LETTERS))
        steps = self.asked(closures.steps_to, chain, (ring[0],), ends)
        self.assertIs(self.asked(closures.is_steps, chain, (ring[0],), ends, steps), True)
        self.assertEqual(len(self.asked(closures.mates, Talk(LETTERS, [*rules, ((ring[-1],), ring[0])]))), 1)
        self.assertEqual(self.asked(closures.least_wants, chain, chain.pairs, ends), (("a", "l"),))
        self.assertEqual(self.asked(closures.idle_rules, chain), ())

    def test_drawn_talks(self):
        for seed in range(3):
            talk, other = drawn_talk(seed, 12, 20, 12), drawn_talk(seed + 10, 12, 20, 0)
            wants = tuple(zip(LETTERS, LETTERS[1:]))
            for gives in talk.pairs:
                self.assertIs(self.asked(closures.follows, talk, wants, gives), True)
            steps = self.asked(closures.steps_to, talk, wants, ("a", "l"))
            self.assertIs(self.asked(closures.is_steps, talk, wants, ("a", "l"), steps), True)
            for gives in talk.pairs[::5]:
                fords = self.asked(closures.fords_against, talk, wants[::6], gives)
                if fords is None:
                    self.assertIs(closures.follows(talk, wants[::6], gives), True)
                else:
                    self.assertIs(self.asked(closures.is_fords_against, talk, wants[::6], gives, fords), True)
            heights = tuple((pair, 10 ** 40 - place) for place, pair in enumerate(talk.pairs))
            self.assertIn(self.asked(closures.is_fords_against, talk, wants[:2], ("k", "l"), heights), (True, False))
            self.assertIs(self.asked(closures.alike_rules, talk, self.asked(closures.thinned, talk)), True)
            self.assertIsNotNone(self.asked(closures.parting_rule, talk, other))
            self.assertEqual(self.asked(closures.told_of, talk, LETTERS[:5]).islands, LETTERS[:5])
            self.assertIs(type(self.asked(closures.mates, talk)), tuple)


class PartingsTest(GreatestCase):

    def test_twelve_islands(self):
        alone = tuple((letter,) for letter in LETTERS)
        halves = (LETTERS[:6], LETTERS[6:])
        for talk in (Talk(LETTERS), drawn_talk(5, 12, 20, 12)):
            above = self.asked(partings.next_above, talk, alone)
            self.assertTrue(all(partings.is_state(talk, state) for state in above))
            least = self.asked(partings.least_state, talk, halves)
            self.assertIs(self.asked(partings.is_finer, halves, least), True)
            self.assertIs(type(self.asked(partings.next_above, talk, least)), list)
        self.assertEqual(self.asked(partings.either_joins, halves, (LETTERS[::2], LETTERS[1::2])), (LETTERS,))
        self.assertEqual(self.asked(partings.pairs_joined, (LETTERS,)), pairs_of(LETTERS))

    def test_six_and_seven_islands(self):
        for rules in (0, 20):
            talk = drawn_talk(6, 7, rules, 0)
            states = self.asked(partings.all_states, talk)
            self.assertEqual(self.asked(partings.how_many_states, talk), len(states))
            self.assertEqual(self.asked(partings.number_of_state, talk, states[-1]), len(states) - 1)
            self.assertEqual(self.asked(partings.state_at, talk, len(states) - 1), states[-1])
            below = self.asked(partings.next_below, drawn_talk(6, 6, rules, 0), (LETTERS[:6],))
            self.assertLessEqual(len(below), 31)

    def test_52_partings(self):
        every = partings.all_states(Talk(LETTERS[:5]))
        self.assertIs(self.asked(partings.are_told, LETTERS[:5], every), True)
        self.assertEqual(self.asked(partings.told_again, LETTERS[:5], every[1:]), every)
        self.assertEqual(self.asked(partings.rules_for, LETTERS[:5], every), ())
        self.assertLessEqual(len(self.asked(partings.rules_for, LETTERS[:5], every[20:28])), 50)


class RisingsTest(GreatestCase):

    def test_five_islands_and_four_floods(self):
        free = Talk(LETTERS[:5], (), [(f"f{letter}", (), ()) for letter in "abcd"])
        told = Talk.of("a b c d e; w: a-b / c-d; x: - / a-b c-d; y: b-c / a-d; z: a-b b-c / a-e")
        for talk in (free, told, drawn_talk(7, 5, 20, 0)):
            many = self.asked(risings.how_many_histories, talk)
            self.assertGreater(many, 0)
            history = self.asked(risings.history_at, talk, many - 1)
            self.assertEqual(self.asked(risings.number_of_history, talk, history), many - 1)
            self.assertEqual(sum(count for _, count in self.asked(risings.lengths, talk)), many)
            self.assertEqual(self.asked(risings.histories_behind, talk, ()), many)
            self.assertGreater(self.asked(risings.histories_with, talk, history[:4]), 0)
            self.assertEqual(sum(self.asked(risings.parted_first, talk, ("a", "b"), ("c", "d"))), many)
            self.assertEqual(sum(count for _, count in self.asked(risings.parted_at, talk, ("a", "b"))), many)
            sure = self.asked(risings.sure_states, talk)
            self.assertLessEqual(set(sure), set(self.asked(risings.possible_states, talk)))
            self.assertEqual(len(self.asked(risings.some_longest, talk)), risings.longest(talk))

    def test_partings_by_twelve_islands(self):
        fords = tuple((pair, 10 ** 40 - 3 * place) for place, pair in enumerate(pairs_of(LETTERS)))
        found = self.asked(risings.partings_by, LETTERS, fords)
        self.assertEqual((len(found), found[0], len(found[-1])), (12, (LETTERS,), 12))


class FloodsTest(GreatestCase):

    def test_twelve_floods(self):
        for seed in range(4):
            talk = drawn_talk(seed, 8, 20, 12)
            lot = self.asked(floods.stuck_lot, talk)
            self.assertIs(self.asked(floods.can_be, talk), lot == ())
            if lot:
                self.assertIs(self.asked(floods.is_stuck, talk, lot), True)

    def test_twelve_floods_one_above_the_other(self):
        # Each next one tells one PAIR more parted, and the last of the PAIRs joined that the ones ahead may have.
        way = list(zip(LETTERS[:8], LETTERS[1:8]))
        told = [(f"f{letter}", tuple(sorted(way[place:])), tuple(sorted(way[:place]))) for place, letter in enumerate("abcdefg")]
        told.extend((f"g{letter}", (), tuple(way)) for letter in "abcde")
        chain = Talk(LETTERS[:8], (), told)
        self.assertIs(self.asked(floods.can_be, chain), True)
        found = self.asked(floods.waters, chain)
        self.assertEqual([len(names) for names in found], [1, 1, 1, 1, 1, 1, 1, 5])
        self.assertEqual(self.asked(floods.fewest_waters, chain), 8)
        self.assertEqual((self.asked(floods.lowest_floods, chain), self.asked(floods.highest_floods, chain)),
                         (("fa",), ("ga", "gb", "gc", "gd", "ge")))
        order = tuple(name for names in found for name in names)
        self.assertIs(self.asked(floods.is_order, chain, order), True)
        fit = self.asked(floods.fit_by, chain, order)
        self.assertIs(self.asked(floods.is_fit, chain, fit), True)
        self.assertIs(self.asked(floods.is_order, chain, order[::-1]), False)

    def test_nine_floods(self):
        free = Talk(LETTERS[:8], drawn_talk(8, 8, 20, 0).rules, [(f"f{letter}", (), ()) for letter in "abcdefghi"])
        self.assertEqual(self.asked(floods.how_many_orders, free), 362880)
        order = self.asked(floods.nth_order, free, 362879)
        self.assertEqual(order, free.names[::-1])
        self.assertEqual(self.asked(floods.order_number, free, order), 362879)
        self.assertEqual(self.asked(floods.nth_order, free, 100000), next(itertools.islice(
            itertools.permutations(free.names), 100000, None)))
        self.assertEqual(self.asked(floods.least_stuck_lots, free), [])
        # Each one of five gets stuck with each one of four.
        torn = Talk(LETTERS[:8], (), [
            *[(f"p{letter}", (("a", "b"),), (("c", "d"),)) for letter in "abcde"],
            *[(f"q{letter}", (("c", "d"),), (("a", "b"),)) for letter in "abcd"]])
        self.assertEqual(self.asked(floods.least_stuck_lots, torn), list(itertools.product(torn.names[:5], torn.names[5:])))


if __name__ == "__main__":
    unittest.main()
