"""Promises 2 and 9 to 16: how all functions are called, and what they do with what they are handed."""

import unittest

from lastfords import desk, fords, great, looks, prices, sure, texts
from lastfords.board import Board
from lastfords.talks import Talk
from tests.calling import Calls
from tests.helpers import AB, AC, AD, BC, CD, Case

EMPTY, LONE, FREE = Talk(), Talk(("a",)), Talk(("a", "b", "c", "d"))
SMALL = Talk.of("a b c; a-b>b-c")
WIDE = Talk.of("a b c; x: a-b / -; y: - / b-c; z: a-c / a-b")
JAM = Talk.of("a b c; p: a-b / a-c; q: b-c / a-b; r: a-c / -")
LARGE = Talk.of("a b c d; a-b>c-d; a-c>c-d; b-c b-d>a-d; x: a-b / a-c")
IDLE = Talk.of("a b c; x: a-b a-c b-c / -")
LOOK = Talk.of("a b c; f: a-b / a-c; g: - / -")
ODD = Talk.of("a b c; a-b>b-c; b-c>a-c; f: a-b / a-c; g: a-c / b-c")
BASES = Talk.of("a b c; a-b>a-c; a-b>b-c; a-c>b-c; x: a-b / -")
ALL = (EMPTY, LONE, FREE, SMALL, WIDE, LARGE, IDLE)

MAP = ((AB, 5), (AC, 2), (AD, 1), (BC, 4), (("b", "d"), 3), (CD, 3))
OTHER = ((AB, 5), (AC, 2), (AD, 1), (BC, 1), (("b", "d"), 3), (CD, 3))
BARE = ((AB, 5), (AC, 0), (AD, 0), (BC, 4), (("b", "d"), 0), (CD, 3))
LASTS = ((AB, 5), (AC, 4), (AD, 3), (BC, 4), (("b", "d"), 3), (CD, 3))
FALSE_RULE = ((("a", "b"),), ("a", "c"))
ROW = ((2, 5), (10 ** 20, 7), (1, 5), (3, 2))
PLAN = (("g", AC), (), (("g", AB), (), ()))
ONE_LOT, MIXED = (("a", "b", "c"),), (("a", "b"), ("c",))
TEXT = "islands a b c\nx: a b c; a-b>b-c\ny: a b c\nx from a b c .. *\nend"


def whole_board():
    board = Board(("a", "b", "c"))
    board["x"] = SMALL
    board.frame("x", None, SMALL)
    return board


CALLS = {
    sure.stands: ("talk one other", [(WIDE, "x", "z"), (WIDE, "y", "x"), (WIDE, "y", "z"), (WIDE, "x", "x")]),
    sure.sure_higher: ("talk", [(talk,) for talk in ALL]),
    sure.shown: ("talk name pair", [(WIDE, "y", AC), (WIDE, "y", AB), (WIDE, "x", BC)]),
    sure.sure_joined: ("talk name", [(WIDE, "x"), (LARGE, "x"), (IDLE, "x")]),
    sure.sure_parted: ("talk name", [(WIDE, "y"), (LARGE, "x"), (IDLE, "x")]),
    sure.may_be_seen: ("talk joined parted", [(WIDE, (BC,), (AB,)), (WIDE, (AB,), (AC,)), (JAM, (), ()), (EMPTY, (), ())]),
    sure.seen_fit: ("talk joined parted", [(WIDE, (AC,), (AB,)), (WIDE, (BC,), (AB,)), (JAM, (), ()), (EMPTY, (), ()), (LARGE, (), (CD,))]),
    sure.rule_holds: ("talk wants gives", [(WIDE, (BC,), AB), (WIDE, (AC,), AB), (JAM, (AC,), AB)]),
    sure.surely_seen: ("talk joined parted", [(WIDE, (AC,), (AB, BC)), (WIDE, (AB,), (AC,)), (WIDE, (AB,), ()), (JAM, (AB,), (AC,))]),
    sure.idle_floods: ("talk", [(JAM,), *[(talk,) for talk in ALL]]),
    sure.idle_tellings: ("talk", [(talk,) for talk in ALL]),
    sure.as_much: ("one other", [(WIDE, WIDE), (IDLE, Talk.of("a b c; x: a-b / -")), (Talk.of("a b c; x: a-b / -"), IDLE)]),
    sure.same_fits: ("one other", [(WIDE, WIDE), (IDLE, Talk.of("a b c; x: a-b a-c / -")), (IDLE, Talk.of("a b c; x: a-b / -"))]),
    fords.is_fords: ("thing", [(MAP,), (MAP[1:],), ((),), ([],), (list(MAP),)]),
    fords.islands_of: ("fords", [(MAP,), ((),)]),
    fords.height_of: ("fords pair", [(MAP, AC), (MAP, CD)]),
    fords.with_height: ("fords pair height", [(MAP, AC, 9), (((AB, 5),), AB, 0)]),
    fords.parting_water: ("fords pair", [(MAP, AC), (MAP, AD)]),
    fords.widest_way: ("fords pair", [(MAP, AC), (MAP, AD), (MAP, AB)]),
    fords.is_widest_way: ("fords pair thing", [(MAP, AD, ("a", "b", "c", "d")), (MAP, AD, ("a", "d")), (MAP, AC, ["a", "b", "c"])]),
    fords.parting_at: ("fords water", [(MAP, 0), (MAP, 3), (MAP, 5), ((), 0)]),
    fords.turning_waters: ("fords", [(MAP,), ((),)]),
    fords.lasts_of: ("fords", [(MAP,), ((),), (LASTS,)]),
    fords.is_lasts: ("thing", [(MAP,), (LASTS,), ((),), (list(LASTS),)]),
    fords.idle_pairs: ("fords", [(MAP,), (LASTS,), ((),)]),
    fords.bare_fords: ("fords", [(MAP,), (LASTS,), ((),)]),
    fords.is_bare: ("fords thing", [(MAP, BARE), (MAP, MAP), ((), ()), (MAP, list(BARE))]),
    fords.how_many_fords: ("fords", [(LASTS,), ((),), (((AB, 7),),)]),
    fords.same_lasts: ("one other", [(MAP, LASTS), (MAP, OTHER), ((), ())]),
    fords.never_earlier: ("one other", [(MAP, OTHER), (OTHER, MAP), ((), ())]),
    fords.earlier_at: ("one other", [(MAP, OTHER), (OTHER, MAP), ((), ())]),
    fords.is_earlier_at: ("one other thing", [(OTHER, MAP, (BC, 3)), (OTHER, MAP, (BC, 4)), (OTHER, MAP, [BC, 3])]),
    fords.fords_keep: ("fords wants gives", [(MAP, (BC,), AC), (MAP, (AB,), BC), (MAP, (AB, CD), AD)]),
    fords.broken_at: ("fords wants gives", [(MAP, (BC,), AC), (MAP, (AB,), BC)]),
    fords.flood_waters: ("fords flood", [(MAP, ("x", (AB,), (CD,))), (MAP, ("x", (CD,), (BC,))), ((), ("x", (), ()))]),
    fords.misfit: ("talk fords", [(LARGE, MAP), (FREE, MAP), (EMPTY, ()), (LONE, ()),
                                  (Talk(FREE.islands, (FALSE_RULE,)), MAP)]),
    fords.fits_talk: ("talk fords", [(LARGE, MAP), (FREE, MAP), (EMPTY, ()), (LONE, ())]),
    fords.least_raise: ("fords pair water", [(MAP, AD, 2), (MAP, AD, 6)]),
    fords.raised_way: ("fords pair water", [(MAP, AD, 2), (MAP, AD, 6)]),
    fords.is_raised_way: ("fords pair water thing", [(MAP, AD, 6, ("a", "b", "d")), (MAP, AD, 6, ("a", "b", "c", "d")),
                                                     (MAP, AD, 6, ["a", "b", "d"])]),
    fords.fewest_sunk: ("fords pair water", [(MAP, AD, 0), (MAP, AD, 3)]),
    fords.sunk_pairs: ("fords pair water", [(MAP, AD, 0), (MAP, AD, 2), (MAP, AD, 3)]),
    fords.is_sunk_pairs: ("fords pair water thing", [(MAP, AD, 1, (("b", "d"), CD)), (MAP, AD, 3, ()), (MAP, AD, 3, [])]),
    fords.ways_apart: ("fords pair water", [(MAP, AD, 0), (MAP, AD, 1), (MAP, AD, 3)]),
    fords.are_ways_apart: ("fords pair water thing", [(MAP, AD, 1, (("a", "b", "d"), ("a", "c", "d"))), (MAP, AD, 3, ()), (MAP, AD, 3, [])]),
    looks.is_look: ("talk thing", [(LOOK, ("f", AB)), (LOOK, ("h", AB)), (LOOK, ["f", AB])]),
    looks.is_sight: ("talk thing", [(LOOK, (MIXED, ONE_LOT)), (LOOK, (ONE_LOT, MIXED)), (LOOK, [MIXED, ONE_LOT]), (EMPTY, ())]),
    looks.how_many_sights: ("talk", [(LOOK,), *[(talk,) for talk in ALL]]),
    looks.sight_at: ("talk number", [(LOOK, 0), (LOOK, 2), (EMPTY, 0), (WIDE, 1)]),
    looks.number_of_sight: ("talk thing", [(LOOK, (MIXED, ONE_LOT)), (LOOK, (ONE_LOT, MIXED)), (LOOK, [MIXED, ONE_LOT]), (EMPTY, ())]),
    looks.open_looks: ("talk", [(LOOK,), *[(talk,) for talk in ALL]]),
    looks.answered: ("talk look joined", [(LOOK, ("g", AC), False), (LOOK, ("f", AB), True)]),
    looks.left_by: ("talk look", [(LOOK, ("g", AB)), (LOOK, ("f", BC)), (WIDE, ("y", AB))]),
    looks.best_look: ("talk", [(LOOK,), *[(talk,) for talk in ALL]]),
    looks.plan: ("talk", [(talk,) for talk in (LOOK, EMPTY, LONE, SMALL, WIDE, IDLE)]),
    looks.fewest_looks: ("talk", [(talk,) for talk in (LOOK, EMPTY, LONE, SMALL, WIDE, IDLE)]),
    looks.depth_of: ("plan", [((),), (PLAN,)]),
    looks.is_plan: ("talk thing", [(LOOK, PLAN), (LOOK, ()), (LOOK, list(PLAN)), (EMPTY, ())]),
    prices.items: ("talk", [(JAM,), (ODD,), *[(talk,) for talk in ALL]]),
    prices.without_items: ("talk places", [(ODD, (0, 3)), (ODD, ()), (EMPTY, ())]),
    prices.frees: ("talk places", [(ODD, (0, 3)), (ODD, ()), (EMPTY, ())]),
    prices.stuck_items: ("talk", [(ODD,), (JAM,), *[(talk,) for talk in ALL]]),
    prices.least_frees: ("talk", [(ODD,), (JAM,), *[(talk,) for talk in ALL]]),
    prices.cheapest_free: ("talk prices", [(ODD, (1, 1, 5, 2)), (JAM, (3, 3, 3)), (EMPTY, ())]),
    prices.how_many_cheapest: ("talk prices", [(ODD, (1, 1, 5, 4)), (JAM, (3, 3, 3)), (EMPTY, ())]),
    prices.kept_or_out: ("talk prices place", [(ODD, (1, 1, 5, 2), 0), (ODD, (1, 1, 5, 2), 1)]),
    prices.rule_lots: ("talk wants gives", [(BASES, (AB,), BC), (BASES, (BC,), AB), (BASES, (AB,), AB)]),
    prices.cheapest_rules: ("talk prices wants gives", [(BASES, (1, 1, 1), (AB,), BC), (BASES, (1, 1, 1), (BC,), AB)]),
    prices.least_bases: ("talk", [(BASES,), (ODD,), *[(talk,) for talk in ALL]]),
    prices.cheapest_base: ("talk prices", [(BASES, (1, 1, 1)), (ODD, (4, 2)), (EMPTY, ())]),
    great.islands_in: ("row", [(ROW,), ((),)]),
    great.last_height: ("row one other", [(ROW, 0, 2), (ROW, 4, 4), ((), 0, 0)]),
    great.lots_at: ("row water", [(ROW, 0), (ROW, 5), ((), 0)]),
    great.lot_at: ("row island water", [(ROW, 3, 5), (ROW, 0, 5), ((), 0, 0)]),
    great.greatest_lot: ("row water", [(ROW, 0), (ROW, 5), ((), 0)]),
    great.how_many_joined: ("row water", [(ROW, 0), (ROW, 5), ((), 0)]),
    great.waters_of: ("row", [(ROW,), ((),), (((3, 0),),)]),
    great.keeps: ("row first second", [(ROW, (0, 1), (2, 3)), (ROW, (3, 2), (0, 1))]),
    great.least_water: ("row lots", [(ROW, 5), (ROW, 1), (ROW, 10 ** 20 + 8), ((), 1)]),
    texts.pair_in: ("text", [("a-b",), ("aa-ab",)]),
    texts.rule_in: ("text", [("a-b>a-c",), ("a-b b-d>c-d",)]),
    texts.board_text: ("board", [(Board(),), (whole_board(),)]),
    texts.board_in: ("text", [("islands\nend",), (TEXT,)]),
    desk.answers: ("text", [("",), ("islands a b\ntalk x a b\nabove x\nundo\ndoubled",)]),
}


class CallsTest(Calls, Case):

    CALLS = CALLS
    MANY = 13 + 32 + 13 + 12 + 9 + 4 + 1
    LISTS = (sure.idle_tellings, desk.answers)


class ReturnedValuesTest(Case):
    """What is told may be passed in again."""

    def test_fords(self):
        for found in (fords.lasts_of(MAP), fords.bare_fords(MAP), fords.with_height(MAP, AB, 10 ** 40)):
            self.assertIs(fords.is_fords(found), True)
            self.assertEqual(fords.islands_of(found), ("a", "b", "c", "d"))
        great_map = fords.with_height(MAP, AB, 10 ** 80)
        self.assertEqual(fords.parting_water(great_map, AB), 10 ** 80)
        self.assertEqual(fords.how_many_fords(fords.lasts_of(great_map)), 333)

    def test_fits(self):
        (fit_fords, levels), water = sure.seen_fit(LARGE, (AB,), (AC,))
        self.assertIs(fords.fits_talk(LARGE, fit_fords), True)
        self.assertEqual([name for name, _ in levels], ["x"])
        self.assertNotIn(("a", "c"), [pair for pair in (AC,) if fords.parting_water(fit_fords, pair) > water])

    def test_rows(self):
        many = great.islands_in(ROW)
        self.assertEqual(great.lot_at(ROW, many - 1, great.waters_of(ROW)[-1]), (many - 1, many - 1))
        self.assertEqual(great.least_water(ROW, great.lots_at(ROW, 5)), 5)

    def test_plans_and_looks(self):
        self.assertIs(looks.is_plan(LOOK, looks.plan(LOOK)), True)
        self.assertIs(looks.is_look(LOOK, looks.best_look(LOOK)), True)
        for look in looks.open_looks(LOOK):
            self.assertNotIn(None, looks.left_by(LOOK, look))


if __name__ == "__main__":
    unittest.main()
