"""Promises 2 and 5 to 8: what is refused, by which error, with which value, and which check comes first."""

import inspect
import unittest

from lastfords.closures import (alike_rules, closed_lots, closure, follows, fords_against, is_fords_against, is_steps,
                                least_wants, never_later, parting_rule, says_no_less, steps_to, told_of)
from lastfords.errors import NoFlood, NoIsland, NoNumber, NoOrder, NoStart, NoState, OtherIslands, Stuck
from lastfords.floods import (fewest_waters, fit_by, highest_floods, is_stuck, lowest_floods, nth_order, order_number,
                              waters)
from lastfords.partings import (both_join, either_joins, is_finer, join_states, next_above, next_below,
                                number_of_state, state_at)
from lastfords.risings import histories_behind, histories_with, history_at, next_states, share_with
from lastfords.talks import Talk
from tests.helpers import AB, AC, BC, Case, listed

AX, XY, BZ, PQ = ("a", "x"), ("x", "y"), ("b", "z"), ("p", "q")
EVERY, NONE, SOME, SIDE, WRONG = ((("a", "b", "c"),), (("a",), ("b",), ("c",)), (("a",), ("b", "c")),
                                  (("a", "c"), ("b",)), (("a", "b"), ("c",)))
SMALL = Talk.of("a b c; a-b>b-c")
FREE = Talk.of("a b c")
WIDE = Talk.of("a b c; x: a-b / -; y: - / b-c; z: a-c / a-b")
JAM = Talk.of("a b c; p: a-b / a-c; q: b-c / a-b; r: a-c / -")
LONE, EMPTY = Talk(("a",)), Talk()


class RefusalsCase(Case):

    def refuse(self, function, cases):
        """Each case raises this error, also by names and with lists."""
        names = list(inspect.signature(function).parameters)
        for *given, expected in cases:
            for values in (given, [listed(value) for value in given]):
                self.assert_error(expected, function, *values)
                self.assert_error(expected, function, **dict(zip(names, values)))


class ClosuresTest(RefusalsCase):

    def test_pairs(self):
        for function in (closure, closed_lots):
            self.refuse(function, (
                (SMALL, (AX,), NoIsland("x")), (SMALL, (AB, XY), NoIsland("x")), (SMALL, (BZ, XY), NoIsland("z")),
                (SMALL, (AB, PQ, XY), NoIsland("p")), (EMPTY, (AB,), NoIsland("a")), (LONE, (AB,), NoIsland("b"))))

    def test_wants_then_gives(self):
        for function in (follows, steps_to, fords_against, least_wants):
            self.refuse(function, (
                (SMALL, (AB,), AX, NoIsland("x")), (SMALL, (BZ,), AX, NoIsland("z")), (SMALL, (AB, PQ), XY, NoIsland("p")),
                (SMALL, (), XY, NoIsland("x")), (SMALL, (), ("c", "y"), NoIsland("y")), (EMPTY, (), AB, NoIsland("a")),
                (SMALL, (BZ, XY), AB, NoIsland("z")), (LONE, (AB,), AB, NoIsland("b"))))

    def test_wants_then_gives_ahead_of_thing(self):
        for function in (is_steps, is_fords_against):
            for thing in ((), None, True, 7, ((AB, 1), (AC, 1), (BC, 2)), (("round", AB, AC, BC),)):
                self.refuse(function, (
                    (SMALL, (AB,), AX, thing, NoIsland("x")), (SMALL, (BZ,), AX, thing, NoIsland("z")),
                    (SMALL, (), ("c", "y"), thing, NoIsland("y"))))

    def test_one_then_other(self):
        self.refuse(never_later, (
            (SMALL, AX, BZ, NoIsland("x")), (SMALL, AB, BZ, NoIsland("z")), (SMALL, XY, PQ, NoIsland("x")),
            (SMALL, AB, PQ, NoIsland("p")), (SMALL, XY, XY, NoIsland("x"))))

    def test_islands(self):
        self.refuse(told_of, (
            (SMALL, ("a", "z", "x"), NoIsland("z")), (SMALL, ("x", "z", "a"), NoIsland("x")), (EMPTY, ("a",), NoIsland("a"))))

    def test_other_islands(self):
        larger = Talk.of("a b c d; a-b>b-c")
        for function in (says_no_less, alike_rules, parting_rule):
            self.refuse(function, (
                (SMALL, larger, OtherIslands()), (larger, SMALL, OtherIslands()), (EMPTY, LONE, OtherIslands()),
                (Talk(("a",)), Talk(("b",)), OtherIslands()), (FREE, Talk(("a", "b")), OtherIslands())))


class PartingsTest(RefusalsCase):

    def test_other_islands(self):
        for function in (is_finer, both_join, either_joins):
            self.refuse(function, (
                (SOME, (("a",),), OtherIslands()), ((("a",),), SOME, OtherIslands()), ((), (("a",),), OtherIslands()),
                ((("a",),), (), OtherIslands()), ((("a", "b"),), (("a", "c"),), OtherIslands()),
                ((("a",), ("b",)), (("a", "b", "c"),), OtherIslands())))

    def test_no_state(self):
        self.refuse(join_states, (
            (SMALL, WRONG, SOME, NoState()), (SMALL, SOME, WRONG, NoState()), (SMALL, WRONG, WRONG, NoState())))
        for function in (next_above, next_below):
            self.refuse(function, ((SMALL, WRONG, NoState()),))

    def test_no_number(self):
        self.refuse(state_at, ((SMALL, 4, NoNumber(4)), (SMALL, -1, NoNumber(-1)), (SMALL, 10 ** 40, NoNumber(10 ** 40)),
                               (SMALL, -4, NoNumber(-4)), (EMPTY, 1, NoNumber(1)), (EMPTY, -1, NoNumber(-1)), (FREE, 5, NoNumber(5))))
        self.assertIsNone(number_of_state(SMALL, WRONG))


class RisingsTest(RefusalsCase):

    def test_no_number(self):
        self.refuse(history_at, (
            (SMALL, 3, NoNumber(3)), (SMALL, -1, NoNumber(-1)), (SMALL, -3, NoNumber(-3)), (JAM, 0, NoNumber(0)),
            (EMPTY, 1, NoNumber(1)), (SMALL, 10 ** 40, NoNumber(10 ** 40)), (SMALL, -10 ** 40, NoNumber(-10 ** 40))))

    def test_no_start(self):
        for function in (next_states, histories_behind):
            self.refuse(function, (
                (SMALL, (EVERY, WRONG), NoStart(1)), (SMALL, (NONE,), NoStart(0)), (SMALL, (WRONG, WRONG), NoStart(0)),
                (SMALL, (EVERY, NONE, NONE), NoStart(2)), (SMALL, (EVERY, EVERY), NoStart(1)),
                (SMALL, (EVERY, SOME, SIDE), NoStart(2)), (SMALL, (EVERY, SOME, NONE, SOME), NoStart(3)),
                (JAM, (EVERY,), NoStart(0)), (JAM, (EVERY, NONE), NoStart(0)), (EMPTY, ((), ()), NoStart(1)),
                (LONE, ((("a",),), (("a",),)), NoStart(1))))

    def test_no_start_where_a_flood_bars_the_way(self):
        wet = Talk.of("a b c; a-b>b-c; high: b-c / a-b")
        for function in (next_states, histories_behind):
            self.refuse(function, ((wet, (EVERY, NONE), NoStart(1)), (wet, (EVERY, SIDE), NoStart(1)),
                                   (wet, (EVERY, SIDE, NONE), NoStart(1)), (wet, (EVERY, SOME, SIDE), NoStart(2))))

    def test_no_state(self):
        self.refuse(histories_with, (
            (SMALL, (WRONG,), NoState()), (SMALL, (SOME, WRONG), NoState()), (SMALL, (WRONG, SOME, SOME), NoState())))
        self.refuse(share_with, ((SMALL, WRONG, NoState()),))

    def test_no_state_ahead_of_no_history(self):
        barred = Talk.of("a b c; a-b>b-c; x: a-b / b-c")
        self.refuse(share_with, ((barred, WRONG, NoState()),))
        self.refuse(histories_with, ((barred, (WRONG,), NoState()),))
        self.assertIsNone(share_with(barred, SOME))


class FloodsTest(RefusalsCase):

    def test_stuck(self):
        torn = Talk.of("a b c d; p: a-b / c-d; q: c-d / a-b; r: a-c / a-c; s: - / b-d; t: a-d / -")
        for function in (waters, fewest_waters, lowest_floods, highest_floods):
            self.refuse(function, (
                (JAM, Stuck(("p", "q"))), (Talk.of("a b; x: a-b / a-b; y: - / -"), Stuck(("x",))), (torn, Stuck(("p", "q", "r", "s")))))

    def test_no_flood(self):
        self.refuse(is_stuck, (
            (JAM, ("p", "s"), NoFlood("s")), (JAM, ("o", "s"), NoFlood("o")), (JAM, ("a",), NoFlood("a")),
            (JAM, ("p", "q", "s", "t"), NoFlood("s")), (EMPTY, ("p",), NoFlood("p"))))

    def test_no_number(self):
        self.refuse(nth_order, (
            (WIDE, 2, NoNumber(2)), (WIDE, -1, NoNumber(-1)), (WIDE, -2, NoNumber(-2)), (JAM, 0, NoNumber(0)),
            (EMPTY, 1, NoNumber(1)), (WIDE, 10 ** 40, NoNumber(10 ** 40)), (WIDE, -10 ** 40, NoNumber(-10 ** 40))))

    def test_no_order(self):
        self.refuse(fit_by, (
            (WIDE, ("y", "x", "z"), NoOrder()), (WIDE, ("x", "y"), NoOrder()), (WIDE, (), NoOrder()),
            (WIDE, ("x", "y", "y"), NoOrder()), (WIDE, ("x", "y", "z", "z"), NoOrder()), (WIDE, ("x", "y", "s"), NoOrder()),
            (JAM, ("p", "q", "r"), NoOrder()), (EMPTY, ("x",), NoOrder())))
        for order in (("y", "x", "z"), ("x", "y"), (), ("x", "y", "y"), ("x", "y", "z", "z"), ("x", "y", "s")):
            self.assertIsNone(order_number(WIDE, order))


if __name__ == "__main__":
    unittest.main()
