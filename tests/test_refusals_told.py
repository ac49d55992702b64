"""Promises 2 and 9 to 12: what is refused, by which error, with which value, and which check comes first."""

import unittest

from lastfords.errors import NoFlood, NoIsland, NoItem, NoNumber, OtherIslands, Stuck
from lastfords.fords import (broken_at, fewest_sunk, flood_waters, fords_keep, height_of, least_raise, misfit,
                             parting_water, raised_way, same_lasts, sunk_pairs, ways_apart, widest_way, with_height)
from lastfords.looks import sight_at
from lastfords.prices import frees, kept_or_out, without_items
from lastfords.sure import (idle_tellings, may_be_seen, rule_holds, seen_fit, shown, stands, sure_higher, sure_joined,
                            sure_parted, surely_seen)
from lastfords.talks import Talk
from tests.helpers import AB, AC, BC
from tests.test_refusals import RefusalsCase

AX, XY, BZ, PQ = ("a", "x"), ("x", "y"), ("b", "z"), ("p", "q")
WIDE = Talk.of("a b c; x: a-b / -; y: - / b-c; z: a-c / a-b")
JAM = Talk.of("a b c; p: a-b / a-c; q: b-c / a-b; r: a-c / -")
TORN = Talk.of("a b c d; p: a-b / c-d; q: c-d / a-b; r: a-c / a-c; s: - / b-d; t: a-d / -")
MAP = ((AB, 5), (AC, 2), (BC, 4))


class SureTest(RefusalsCase):

    def test_stands(self):
        self.refuse(stands, (
            (WIDE, "q", "r", NoFlood("q")), (WIDE, "x", "r", NoFlood("r")), (WIDE, "a", "x", NoFlood("a")),
            (JAM, "s", "t", NoFlood("s")), (JAM, "p", "t", NoFlood("t")), (JAM, "p", "q", Stuck(("p", "q"))),
            (JAM, "r", "r", Stuck(("p", "q"))), (JAM, "p", "p", Stuck(("p", "q"))), (Talk(), "x", "x", NoFlood("x")),
            (TORN, "t", "t", Stuck(("p", "q", "r", "s")))))

    def test_shown(self):
        self.refuse(shown, (
            (WIDE, "q", AX, NoFlood("q")), (WIDE, "x", AX, NoIsland("x")), (WIDE, "x", XY, NoIsland("x")), (WIDE, "x", ("aa", "b"), NoIsland("aa")),
            (JAM, "s", AX, NoFlood("s")), (JAM, "p", AX, NoIsland("x")), (JAM, "p", AB, Stuck(("p", "q"))), (Talk(), "x", AB, NoFlood("x")),
            (Talk.of("-; x: - / -"), "x", AB, NoIsland("a"))))

    def test_one_flood(self):
        for function in (sure_joined, sure_parted):
            self.refuse(function, (
                (WIDE, "q", NoFlood("q")), (JAM, "s", NoFlood("s")), (JAM, "r", Stuck(("p", "q"))), (JAM, "a", NoFlood("a")),
                (Talk(), "x", NoFlood("x"))))

    def test_stuck(self):
        for function in (sure_higher, idle_tellings):
            self.refuse(function, ((JAM, Stuck(("p", "q"))), (TORN, Stuck(("p", "q", "r", "s"))),
                                   (Talk.of("a b; x: a-b / a-b"), Stuck(("x",)))))

    def test_joined_ahead_of_parted_in_what_can_not_be_too(self):
        for talk in (WIDE, JAM, TORN):
            for function in (may_be_seen, seen_fit, surely_seen):
                self.refuse(function, (
                    (talk, (AX,), (BZ,), NoIsland("x")), (talk, (AB, BZ), (AX,), NoIsland("z")), (talk, (), (AB, PQ, XY), NoIsland("p")),
                    (talk, (XY,), (), NoIsland("x")), (talk, (AB,), (("b", "y"),), NoIsland("y"))))
            self.refuse(rule_holds, (
                (talk, (AX,), BZ, NoIsland("x")), (talk, (AB, BZ), AX, NoIsland("z")), (talk, (AB,), PQ, NoIsland("p")),
                (talk, (AB, PQ), XY, NoIsland("p"))))


class FordsTest(RefusalsCase):

    def test_pair(self):
        for function, more in ((height_of, ()), (parting_water, ()), (widest_way, ()), (with_height, (3,)), (least_raise, (3,)),
                               (raised_way, (3,)), (fewest_sunk, (3,)), (sunk_pairs, (3,)), (ways_apart, (3,))):
            self.refuse(function, [(*given, *more, expected) for *given, expected in (
                (MAP, AX, NoIsland("x")), (MAP, XY, NoIsland("x")), (MAP, ("aa", "b"), NoIsland("aa")), ((), AB, NoIsland("a")),
                (((AB, 1),), AC, NoIsland("c")), (((AB, 1),), PQ, NoIsland("p")))])

    def test_wants_then_gives(self):
        for function in (fords_keep, broken_at):
            self.refuse(function, (
                (MAP, (AB, BZ), AX, NoIsland("z")), (MAP, (AB,), AX, NoIsland("x")), (MAP, (PQ, XY), AX, NoIsland("p")),
                (MAP, (AB, PQ), XY, NoIsland("p")), ((), (AB,), AC, NoIsland("a"))))

    def test_flood(self):
        self.refuse(flood_waters, (
            (MAP, ("n", (AX,), (BZ,)), NoIsland("x")), (MAP, ("n", (AB,), (BZ,)), NoIsland("z")), (MAP, ("n", (AB, PQ), (XY,)), NoIsland("p")),
            (MAP, ("n", (), (BC, XY)), NoIsland("x")), ((), ("n", (), (AB,)), NoIsland("a")), (MAP, ("n", (AC,), (("a", "d"),)), NoIsland("d"))))

    def test_other_islands(self):
        self.refuse(same_lasts, ((MAP, (), OtherIslands()), (((AB, 1),), MAP, OtherIslands()), (((AB, 1),), ((AC, 1),), OtherIslands())))
        self.refuse(misfit, ((WIDE, (), OtherIslands()), (TORN, MAP, OtherIslands()), (Talk(), MAP, OtherIslands()),
                             (Talk(("a", "b", "d")), MAP, OtherIslands())))


class OthersTest(RefusalsCase):

    def test_sights(self):
        talk = Talk.of("a b; x: a-b / -")
        self.refuse(sight_at, ((talk, 1, NoNumber(1)), (talk, -1, NoNumber(-1)), (talk, 10 ** 40, NoNumber(10 ** 40)),
                               (Talk(), 1, NoNumber(1)), (Talk(), -1, NoNumber(-1))))

    def test_places(self):
        for function in (without_items, frees):
            self.refuse(function, ((WIDE, (3,), NoItem(3)), (WIDE, (-1, 0), NoItem(-1)), (WIDE, (0, 5, 6), NoItem(5)), (Talk(), (0,), NoItem(0)),
                                   (JAM, (-2, -1), NoItem(-2))))
        self.refuse(kept_or_out, ((WIDE, (1, 1, 1), 3, NoItem(3)), (WIDE, (1, 1, 1), -1, NoItem(-1)), (Talk(), (), 0, NoItem(0))))


if __name__ == "__main__":
    unittest.main()
