"""Promise 3: the greatest arguments that points 9 to 16 allow; no answer may take many seconds."""

import itertools
import random
import unittest

from lastfords import fords, looks, prices, sure
from lastfords.board import Board
from lastfords.desk import answers
from lastfords.floods import can_be, is_fit
from lastfords.talks import Talk, pair_text
from lastfords.texts import board_in, board_text
from tests.helpers import AB
from tests.reckoning import drawn_rule, pairs_of
from tests.test_greatest import LETTERS, GreatestCase, drawn_talk

GREAT = 10 ** 40


def rising_talk(seed, many, rules, told):
    """A Talk that can be, of so many ISLANDs, RULEs and FLOODS that tell as much as fits its own FORDS."""
    draw = random.Random(seed)
    islands = LETTERS[:many]
    pairs = pairs_of(islands)
    heights = tuple((pair, draw.randint(1, 3 * told)) for pair in pairs)
    lasts = dict(fords.lasts_of(heights))
    kept = set()
    while len(kept) < rules:
        rule = drawn_rule(draw, pairs)
        if min(lasts[pair] for pair in rule[0]) <= lasts[rule[1]]:
            kept.add(rule)
    waters = sorted(lasts.values())
    floods = []
    for place, letter in enumerate(LETTERS[:told]):
        water = waters[place * len(waters) // told]
        floods.append((f"f{letter}", tuple(pair for pair in pairs if lasts[pair] > water and draw.random() < 0.5),
                       tuple(pair for pair in pairs if lasts[pair] <= water and draw.random() < 0.5)))
    return Talk(islands, sorted(kept), floods)


class SureTest(GreatestCase):

    def test_twelve_floods(self):
        for talk in (rising_talk(1, 8, 20, 12), rising_talk(2, 8, 0, 12), rising_talk(3, 8, 20, 12)):
            self.assertIs(can_be(talk), True)
            self.assertGreater(len(self.asked(sure.sure_higher, talk)), 10)
            for name in talk.names[::4]:
                joined, parted = self.asked(sure.sure_joined, talk, name), self.asked(sure.sure_parted, talk, name)
                self.assertTrue(set(talk[name][1]) <= set(joined) and set(talk[name][2]) <= set(parted))
                self.assertIs(self.asked(sure.surely_seen, talk, talk[name][1], talk[name][2]), True)
                self.assertIs(self.asked(sure.may_be_seen, talk, joined, parted), True)
                fit, _ = self.asked(sure.seen_fit, talk, joined, parted)
                self.assertIs(is_fit(talk, fit), True)
            self.assertIs(type(self.asked(sure.idle_floods, talk)), tuple)
            idle = self.asked(sure.idle_tellings, talk)
            self.assertGreater(len(idle), 50)
            less = Talk(talk.islands, talk.rules[1:], talk.floods)
            self.assertIs(self.asked(sure.as_much, talk, less), True)
            self.assertIs(self.asked(sure.same_fits, talk, talk), True)

    def test_as_much_told_as_can_be(self):
        # Each FLOOD stands above the one ahead of it, and tells all PAIRs.
        islands, way = LETTERS[:8], list(zip(LETTERS[:8], LETTERS[1:8]))
        told = []
        for place in range(12):
            joined = {pair for pair in pairs_of(islands) if LETTERS.index(pair[0]) >= min(place, 7)}
            told.append((f"f{LETTERS[place]}", tuple(sorted(joined)), tuple(sorted(set(pairs_of(islands)) - joined))))
        rules = [((one,), other) for one, other in zip(way, way[1:])]
        talk = Talk(islands, [*rules, *[((pair,), way[-1]) for pair in pairs_of(islands) if pair not in (way[-1], way[-2])][:14]], told)
        self.assertIs(can_be(talk), True)
        self.assertEqual(len(self.asked(sure.sure_higher, talk)), 21 + 7 * 5)
        self.assertGreater(len(self.asked(sure.idle_tellings, talk)), 200)
        self.assertGreater(len(self.asked(sure.idle_floods, talk)), 3)
        self.assertIs(self.asked(sure.same_fits, talk, Talk(islands, rules, told)), True)

    def test_what_can_not_be(self):
        talk = drawn_talk(1, 8, 20, 12)
        self.assertIs(can_be(talk), False)
        self.assertIs(self.asked(sure.surely_seen, talk, talk.pairs, talk.pairs), True)
        self.assertEqual(len(self.asked(sure.idle_floods, talk)), 12)
        self.assertIs(self.asked(sure.as_much, talk, Talk(talk.islands, (), [(name, (), ()) for name in talk.names])), True)


class FordsTest(GreatestCase):

    def maps(self):
        draw = random.Random(4)
        pairs = pairs_of(LETTERS)
        yield tuple((pair, GREAT - place) for place, pair in enumerate(pairs))
        yield tuple((pair, GREAT) for pair in pairs)
        yield tuple((pair, draw.randint(0, GREAT)) for pair in pairs)
        yield tuple((pair, draw.choice((0, 1, 2, 3))) for pair in pairs)

    def test_twelve_islands(self):
        for one in self.maps():
            lasts = self.asked(fords.lasts_of, one)
            self.assertIs(self.asked(fords.is_lasts, lasts), True)
            self.assertIs(self.asked(fords.is_bare, one, self.asked(fords.bare_fords, one)), True)
            self.assertIs(self.asked(fords.same_lasts, one, lasts), True)
            self.assertGreaterEqual(len(self.asked(fords.idle_pairs, one)), 66 - 11 if one[0][1] < GREAT else 0)
            self.assertLessEqual(len(self.asked(fords.turning_waters, one)), 11)
            for pair, height in one[::13]:
                water = self.asked(fords.parting_water, one, pair)
                self.assertIs(self.asked(fords.is_widest_way, one, pair, self.asked(fords.widest_way, one, pair)), True)
                for at in (0, 1, max(0, water - 1), water, GREAT):
                    way = self.asked(fords.raised_way, one, pair, at)
                    self.assertIs(self.asked(fords.is_raised_way, one, pair, at, way), True)
                    sunk, ways = self.asked(fords.sunk_pairs, one, pair, at), self.asked(fords.ways_apart, one, pair, at)
                    self.assertEqual(len(sunk), len(ways))
                    self.assertIs(self.asked(fords.is_sunk_pairs, one, pair, at, sunk), True)
                    self.assertIs(self.asked(fords.are_ways_apart, one, pair, at, ways), True)
            talk = drawn_talk(5, 12, 20, 12)
            self.asked(fords.misfit, talk, one)
            self.asked(fords.flood_waters, one, talk.floods[0])

    def test_seven_islands(self):
        pairs = pairs_of(LETTERS[:7])
        self.assertEqual(self.asked(fords.how_many_fords, tuple((pair, 1) for pair in pairs)), 1866256)
        many = self.asked(fords.how_many_fords, tuple((pair, GREAT) for pair in pairs))
        # All lower or as high, but those that do not make one lot of all.
        self.assertTrue(0 < many < (GREAT + 1) ** 21)
        steps = tuple((pair, GREAT - LETTERS.index(pair[1])) for pair in pairs)
        self.assertIs(fords.is_lasts(steps), True)
        # Each ISLAND comes to a lot of place others: not all of its fords to them are lower than the height.
        expected = 1
        for place in range(1, 7):
            height = GREAT - place
            expected *= (height + 1) ** place - height ** place
        self.assertEqual(self.asked(fords.how_many_fords, steps), expected)


class LooksTest(GreatestCase):

    def test_four_islands_and_three_floods(self):
        for rules in (0, 2):
            talk = Talk(LETTERS[:4], drawn_talk(6, 4, rules, 0).rules, [(f"f{letter}", (), ()) for letter in "abc"])
            many = self.asked(looks.how_many_sights, talk)
            self.assertEqual(self.asked(looks.number_of_sight, talk, self.asked(looks.sight_at, talk, many - 1)), many - 1)
            self.assertEqual(len(self.asked(looks.open_looks, talk)), 18)
            self.assertEqual(len(self.asked(looks.left_by, talk, ("fb", AB))), 2)
            self.asked(looks.best_look, talk)
            log = looks.Looks(talk)
            while log.left():
                look = log.left()[0]
                self.asked(log.learn, look, looks.left_by(log.talk, look)[0] is not None)
                self.assertIsNotNone(self.asked(log.told, look))
            self.assertEqual(looks.how_many_sights(log.talk), 1)
            while len(log):
                self.asked(log.back)

    def test_six_open_looks(self):
        for talk in (Talk.of("a b c; f: - / -; g: - / -"), Talk.of("a b c d; f: - / -"), Talk.of("a b; f: - / -; g: - / -; h: - / -")):
            depth = self.asked(looks.fewest_looks, talk)
            best = self.asked(looks.plan, talk)
            self.assertEqual(looks.depth_of(best), depth)
            self.assertIs(self.asked(looks.is_plan, talk, best), True)


class PricesTest(GreatestCase):

    def test_eight_items(self):
        pairs = pairs_of(LETTERS[:6])
        torn = Talk(LETTERS[:6], (), [*[(f"p{letter}", (pairs[0],), (pairs[14],)) for letter in "abcd"],
                                      *[(f"q{letter}", (pairs[14],), (pairs[0],)) for letter in "abcd"]])
        self.assertEqual(self.asked(prices.stuck_items, torn), tuple(itertools.product(range(4), range(4, 8))))
        self.assertEqual(self.asked(prices.least_frees, torn), ((0, 1, 2, 3), (4, 5, 6, 7)))
        self.assertEqual(self.asked(prices.cheapest_free, torn, (GREAT,) * 8), (4 * GREAT, (0, 1, 2, 3)))
        self.assertEqual(self.asked(prices.kept_or_out, torn, (GREAT,) * 8, 5), (4 * GREAT, 3 * GREAT))
        self.assertEqual(self.asked(prices.how_many_cheapest, torn, (GREAT,) * 8), 2)
        ring = [((one,), other) for one, other in zip(pairs[:8], (*pairs[1:8], pairs[0]))]
        talk = Talk(LETTERS[:6], ring)
        self.assertGreater(len(self.asked(prices.least_bases, talk)), 0)
        self.assertGreater(len(self.asked(prices.rule_lots, talk, pairs[:1], pairs[7])), 0)
        self.assertIsNotNone(self.asked(prices.cheapest_base, talk, (GREAT,) * 8))
        self.assertIsNotNone(self.asked(prices.cheapest_rules, talk, (GREAT,) * 8, pairs[:1], pairs[7]))
        for seed in range(4):
            drawn = drawn_talk(seed, 6, 4, 4)
            self.assertGreater(len(self.asked(prices.least_frees, drawn)), 0)


class BoardTest(GreatestCase):

    def filled(self):
        islands = LETTERS[:8]
        board = Board(islands)
        for place, name in enumerate(islands):
            board[name] = rising_talk(place + 20, 8, 20, 12)
            board.frame(name, Talk(islands), Talk(islands, [*board[name].rules, ((AB,), ("g", "h"))]))
        return board

    def test_140_deeds(self):
        draw = random.Random(21)
        board, islands = self.filled(), LETTERS[:8]
        pairs, done = pairs_of(islands), 16
        while done < 140:
            name, pair = draw.choice(islands), draw.choice(pairs)
            shown = board.shown(name, "fa", pair)
            self.asked(board.tell, name, "fa", pair, shown != "parted")
            done += 1
        for name in islands:
            self.asked(board.above, name)
            self.asked(board.effect, name, rising_talk(9, 8, 20, 12))
            self.asked(board.stands, name, "fa", "fl")
        self.assertEqual(self.asked(board.doubled), ())
        text = self.asked(board_text, board)
        self.assertTrue(self.asked(board_in, text) == board)
        twin = self.asked(board.twin)
        self.assertEqual([twin.undo() for _ in range(141)], [True] * 140 + [False])
        self.assertTrue(twin == Board(islands))
        deeds = tuple(("tell", draw.choice(islands), "new", draw.choice(pairs), True) for _ in range(140))
        self.asked(board.attempt, deeds)
        self.assertTrue(board.undo() and board_text(board) == text)

    def test_60_lines_of_4000_signs(self):
        islands = LETTERS[:8]
        rules = {drawn_rule(random.Random(seed), pairs_of(islands)) for seed in range(400)}
        text = " ".join(islands)
        for rule in sorted(rules):
            more = text + "; " + " ".join(map(pair_text, rule[0])) + ">" + pair_text(rule[1])
            if len(more) < 3900:
                text = more
        self.assertGreater(len(text), 3800)
        lines = ["islands " + " ".join(islands)]
        for name in "pqrstuvw":
            lines.extend([f"talk {name} {text}", f"effect {name} {text}", f"above {name}", f"tell {name} f joined a-b",
                          f"frame {name} from * .. {text}", f"stands {name} f f", f"shown {name} f a-c"])
        lines.append("doubled")
        found = self.asked(answers, "\n".join(lines))
        self.assertEqual(found[:8], ["done", "done", "alike", "-", "done", "done", "open", "joined"])
        self.assertEqual(len(found), 58)
        long = "talk p " + "a b; " + "f: - / -; " * 500
        self.assertEqual(len(self.asked(answers, "islands a b\n" + "\n".join(["undo"] * 58))), 59)
        with self.assertRaises(ValueError):
            self.asked(answers, "islands a b\n" + long)


if __name__ == "__main__":
    unittest.main()
