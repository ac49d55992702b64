"""Promises 2 and 5 to 8: how all functions are called, and what they do with what they are handed.

Lists for tuples and by names, arguments that stay as they were, the same call twice, lists that the caller changes.
"""

import unittest

from lastfords import closures, floods, partings, risings
from lastfords.talks import Talk
from tests.calling import Calls
from tests.helpers import AB, AC, AD, BC, BD, CD, Case

FOUR = ("a", "b", "c", "d")
EVERY, NONE, SOME, SIDE = ((("a", "b", "c"),), (("a",), ("b",), ("c",)), (("a",), ("b", "c")), (("a", "c"), ("b",)))
PART = (("a", "b"), ("c", "d"))
HIGH = ((AB, 2), (AC, 4), (BC, 1))

EMPTY, LONE, FREE = Talk(), Talk(("a",)), Talk(FOUR)
SMALL = Talk.of("a b c; a-b>b-c")
WET = Talk.of("a b c; a-b>b-c; high: b-c / a-b")
WIDE = Talk.of("a b c; x: a-b / -; y: - / b-c; z: a-c / a-b")
JAM = Talk.of("a b c; p: a-b / a-c; q: b-c / a-b; r: a-c / -")
LARGE = Talk.of("a b c d; a-b>c-d; a-c>c-d; b-c b-d>a-d; x: a-b / a-c")
RINGS = Talk.of("a b c d; a-b>c-d; a-c>b-d; b-d>a-c; c-d>a-b")
ALL = (EMPTY, LONE, FREE, SMALL, WET, WIDE, LARGE)

# Of each function the names of its parameters and some arguments. Those called thing are handed over as they are.
CALLS = {
    closures.closure: ("talk pairs", [(EMPTY, ()), (SMALL, (AB,)), (LARGE, (AB, BC)), (LARGE, ())]),
    closures.closed_lots: ("talk pairs", [(EMPTY, ()), (LONE, ()), (SMALL, (AB,)), (LARGE, (AB, BD))]),
    closures.follows: ("talk wants gives", [(SMALL, (AB,), AC), (SMALL, (), AB), (LARGE, (AB, AC), BD)]),
    closures.steps_to: ("talk wants gives", [(SMALL, (AB,), AC), (SMALL, (AC,), AB), (LARGE, (AB, AC), BD), (FREE, (AB, AC, AD), CD)]),
    closures.is_steps: ("talk wants gives thing", [
        (SMALL, (AB,), BC, (("told", ((AB,), BC)),)), (SMALL, (AB, AC), BC, (("round", AB, AC, BC),)), (SMALL, (), AB, ())]),
    closures.fords_against: ("talk wants gives", [(SMALL, (BC,), AB), (SMALL, (AB,), AC), (LARGE, (), AC), (FREE, (AB, CD), BC)]),
    closures.is_fords_against: ("talk wants gives thing", [
        (SMALL, (BC,), AB, ((AB, 1), (AC, 1), (BC, 2))), (SMALL, (BC,), AB, ((AB, 2), (AC, 1), (BC, 1)))]),
    closures.least_wants: ("talk wants gives", [(SMALL, (AB, AC), BC), (SMALL, (AC,), BC), (LARGE, (AB, AC, BC), CD)]),
    closures.says_no_less: ("one other", [(SMALL, WET), (SMALL, WIDE), (WIDE, SMALL)]),
    closures.alike_rules: ("one other", [(SMALL, WET), (WIDE, SMALL)]),
    closures.parting_rule: ("one other", [(SMALL, WET), (WIDE, SMALL), (LARGE, RINGS), (RINGS, LARGE)]),
    closures.idle_rules: ("talk", [(talk,) for talk in ALL]),
    closures.thinned: ("talk", [(talk,) for talk in ALL]),
    closures.never_later: ("talk one other", [(SMALL, AB, BC), (SMALL, BC, AB), (SMALL, AB, AB)]),
    closures.mates: ("talk", [(RINGS,), *[(talk,) for talk in ALL]]),
    closures.told_of: ("talk islands", [(LARGE, ("d", "a", "b", "a")), (EMPTY, ()), (LARGE, ()), (SMALL, ("c", "a"))]),
    partings.is_parting: ("islands thing", [(FOUR, PART), ((), ()), (("a", "b", "c"), PART), (("a",), [["a"]])]),
    partings.pairs_joined: ("parting", [((),), (PART,), (NONE,), (EVERY,)]),
    partings.lots_from: ("islands pairs", [(FOUR, (CD, AB, CD)), ((), ()), (FOUR, ())]),
    partings.is_finer: ("one other", [(NONE, SOME), (SOME, SIDE), ((), ())]),
    partings.both_join: ("one other", [(NONE, SOME), (SOME, SIDE), ((), ()), (EVERY, SIDE)]),
    partings.either_joins: ("one other", [(NONE, SOME), (SOME, SIDE), ((), ()), (SOME, SOME)]),
    partings.is_state: ("talk thing", [(SMALL, SIDE), (SMALL, (("a", "b"), ("c",))), (EMPTY, ()), (SMALL, [["a"]])]),
    partings.broken_by: ("talk parting", [(SMALL, SIDE), (SMALL, (("a", "b"), ("c",))), (EMPTY, ())]),
    partings.least_state: ("talk parting", [(SMALL, SIDE), (SMALL, (("a", "b"), ("c",))), (EMPTY, ())]),
    partings.join_states: ("talk one other", [(SMALL, SIDE, SOME), (SMALL, NONE, SOME), (EMPTY, (), ())]),
    partings.next_above: ("talk state", [(SMALL, NONE), (SMALL, EVERY), (EMPTY, ()), (WIDE, SOME)]),
    partings.next_below: ("talk state", [(SMALL, NONE), (SMALL, EVERY), (EMPTY, ()), (WIDE, SOME)]),
    partings.all_states: ("talk", [(talk,) for talk in ALL]),
    partings.how_many_states: ("talk", [(talk,) for talk in ALL]),
    partings.state_at: ("talk number", [(SMALL, 0), (SMALL, 3), (EMPTY, 0)]),
    partings.number_of_state: ("talk parting", [(SMALL, SIDE), (SMALL, (("a", "b"), ("c",))), (EMPTY, ())]),
    partings.told_again: ("islands partings", [(("a", "b", "c"), (SIDE, SOME)), (("a", "b"), ()), ((), ())]),
    partings.are_told: ("islands partings", [(("a", "b", "c"), (SIDE, SOME)), (("a", "b", "c"), (SIDE, NONE, EVERY)), ((), ((),))]),
    partings.rules_for: ("islands partings", [(("a", "b", "c"), (SIDE, SOME)), (FOUR, ()), ((), ())]),
    risings.is_history: ("talk thing", [(SMALL, (EVERY, NONE)), (SMALL, [EVERY, NONE]), (EMPTY, ((),)), (WET, (EVERY, NONE))]),
    risings.how_many_histories: ("talk", [(talk,) for talk in ALL]),
    risings.history_at: ("talk number", [(SMALL, 0), (SMALL, 2), (WET, 0), (EMPTY, 0), (LONE, 0)]),
    risings.number_of_history: ("talk partings", [(SMALL, (EVERY, SIDE, NONE)), (SMALL, (EVERY,)), (SMALL, ()), (EMPTY, ((),))]),
    risings.lengths: ("talk", [(JAM,), *[(talk,) for talk in ALL]]),
    risings.shortest: ("talk", [(JAM,), *[(talk,) for talk in ALL]]),
    risings.longest: ("talk", [(JAM,), *[(talk,) for talk in ALL]]),
    risings.some_shortest: ("talk", [(JAM,), *[(talk,) for talk in ALL]]),
    risings.some_longest: ("talk", [(JAM,), *[(talk,) for talk in ALL]]),
    risings.next_states: ("talk begun", [(SMALL, (EVERY,)), (SMALL, ()), (SMALL, (EVERY, NONE)), (JAM, ()), (EMPTY, ((),))]),
    risings.histories_behind: ("talk begun", [(SMALL, (EVERY,)), (SMALL, ()), (SMALL, (EVERY, NONE)), (JAM, ())]),
    risings.histories_with: ("talk states", [(SMALL, (SOME,)), (SMALL, (NONE, SOME, EVERY, SOME)), (SMALL, ()), (JAM, (SOME,))]),
    risings.share_with: ("talk state", [(SMALL, SOME), (WET, SIDE), (WET, NONE), (JAM, SOME), (EMPTY, ())]),
    risings.possible_states: ("talk", [(JAM,), *[(talk,) for talk in ALL]]),
    risings.sure_states: ("talk", [(JAM,), *[(talk,) for talk in ALL]]),
    risings.parted_at: ("talk pair", [(SMALL, BC), (WET, AB), (JAM, AB), (LARGE, CD)]),
    risings.parted_first: ("talk one other", [(SMALL, AB, BC), (SMALL, BC, AB), (WET, AB, AB), (JAM, AB, AC)]),
    risings.fords_in: ("history", [((EVERY, SOME, NONE),), (((),),), (((("a",),),),)]),
    risings.partings_by: ("islands fords", [(("a", "b", "c"), HIGH), ((), ()), (("a",), ())]),
    floods.can_be: ("talk", [(JAM,), *[(talk,) for talk in ALL]]),
    floods.stuck_lot: ("talk", [(JAM,), *[(talk,) for talk in ALL]]),
    floods.is_stuck: ("talk names", [(JAM, ("p", "q")), (JAM, ("p", "r")), (WIDE, ("x",))]),
    floods.least_stuck_lots: ("talk", [(JAM,), *[(talk,) for talk in ALL]]),
    floods.waters: ("talk", [(talk,) for talk in ALL]),
    floods.fewest_waters: ("talk", [(talk,) for talk in ALL]),
    floods.lowest_floods: ("talk", [(talk,) for talk in ALL]),
    floods.highest_floods: ("talk", [(talk,) for talk in ALL]),
    floods.is_order: ("talk thing", [(WIDE, ("x", "y", "z")), (WIDE, ["x", "y", "z"]), (EMPTY, ()), (JAM, ("p", "q", "r"))]),
    floods.how_many_orders: ("talk", [(JAM,), *[(talk,) for talk in ALL]]),
    floods.nth_order: ("talk number", [(WIDE, 0), (WIDE, 1), (EMPTY, 0), (WET, 0)]),
    floods.order_number: ("talk order", [(WIDE, ("x", "z", "y")), (WIDE, ("x", "y")), (JAM, ("p", "q", "r")), (EMPTY, ())]),
    floods.fit_by: ("talk order", [(WIDE, ("x", "z", "y")), (WET, ("high",)), (EMPTY, ()), (FREE, ())]),
    floods.is_fit: ("talk thing", [(WIDE, (HIGH, (("x", 1), ("y", 2), ("z", 3)))), (EMPTY, ((), ())), (JAM, ())]),
}


class CallsTest(Calls, Case):

    CALLS = CALLS
    MANY = 16 + 19 + 19 + 14
    LISTS = (partings.next_above, partings.next_below, partings.all_states, partings.told_again, risings.lengths,
             risings.next_states, risings.parted_at, floods.waters, floods.least_stuck_lots)


class SmallTalksTest(Case):
    """Talks without ISLANDs, with one, without RULEs, without FLOODS."""

    def test_closures(self):
        for talk in (EMPTY, LONE):
            self.assertEqual((closures.closure(talk, ()), closures.idle_rules(talk), closures.mates(talk)), ((), (), ()))
            self.assertEqual(closures.closed_lots(talk, ()), tuple((name,) for name in talk.islands))
            self.assertEqual((closures.thinned(talk), closures.told_of(talk, talk.islands)), (talk, talk))
            self.assertEqual((closures.says_no_less(talk, talk), closures.alike_rules(talk, talk),
                              closures.parting_rule(talk, talk)), (True, True, None))
        self.assertEqual((closures.mates(FREE), closures.closure(FREE, (AB, BC))), ((), (AB, AC, BC)))
        two = Talk(("a", "b"))
        self.assertEqual((closures.follows(two, (), AB), closures.fords_against(two, (AB,), AB),
                          closures.steps_to(two, (AB,), AB), closures.least_wants(two, (AB,), AB)), (False, None, (), (AB,)))

    def test_partings(self):
        for talk, only in ((EMPTY, ()), (LONE, (("a",),))):
            self.assertEqual((partings.all_states(talk), partings.how_many_states(talk), partings.state_at(talk, 0),
                              partings.number_of_state(talk, only)), ([only], 1, only, 0))
            self.assertEqual((partings.next_above(talk, only), partings.next_below(talk, only)), ([], []))
            self.assertEqual((partings.is_state(talk, only), partings.is_parting(talk.islands, only),
                              partings.broken_by(talk, only), partings.least_state(talk, only)), (True, True, None, only))
            self.assertEqual((partings.join_states(talk, only, only), partings.both_join(only, only),
                              partings.either_joins(only, only), partings.is_finer(only, only)), (only, only, only, True))
            self.assertEqual((partings.lots_from(talk.islands, ()), partings.pairs_joined(only)), (only, ()))
            self.assertEqual(partings.told_again(talk.islands, ()), [only])
            self.assertEqual((partings.are_told(talk.islands, ()), partings.are_told(talk.islands, (only, only))), (False, True))

    def test_risings(self):
        for talk, only in ((EMPTY, ()), (LONE, (("a",),)), (Talk.of("-; x: - / -"), ()), (Talk.of("a; x: - / -"), (("a",),))):
            whole = (only,)
            self.assertEqual((risings.how_many_histories(talk), risings.history_at(talk, 0),
                              risings.number_of_history(talk, whole), risings.is_history(talk, whole)), (1, whole, 0, True))
            self.assertEqual((risings.lengths(talk), risings.shortest(talk), risings.longest(talk)), ([(1, 1)], 1, 1))
            self.assertEqual((risings.some_shortest(talk), risings.some_longest(talk)), (whole, whole))
            self.assertEqual((risings.next_states(talk, ()), risings.next_states(talk, whole)), ([only], []))
            self.assertEqual((risings.histories_behind(talk, ()), risings.histories_behind(talk, whole)), (1, 1))
            self.assertEqual((risings.histories_with(talk, ()), risings.histories_with(talk, whole),
                              risings.share_with(talk, only)), (1, 1, (1, 1)))
            self.assertEqual((risings.possible_states(talk), risings.sure_states(talk)), (whole, whole))
            self.assertEqual((risings.fords_in(whole), risings.partings_by(talk.islands, ())), ((), whole))
            self.assertIs(risings.is_history(talk, ()), False)
            self.assertIs(risings.is_history(talk, (only, only)), False)

    def test_where_there_is_no_history(self):
        self.assertEqual((risings.how_many_histories(JAM), risings.lengths(JAM), risings.shortest(JAM), risings.longest(JAM)),
                         (0, [], None, None))
        self.assertEqual((risings.some_shortest(JAM), risings.some_longest(JAM)), (None, None))
        self.assertEqual((risings.next_states(JAM, ()), risings.histories_behind(JAM, ()), risings.histories_with(JAM, ())),
                         ([], 0, 0))
        self.assertEqual((risings.possible_states(JAM), risings.sure_states(JAM), risings.share_with(JAM, SOME)), ((), None, None))
        self.assertEqual((risings.parted_at(JAM, AB), risings.parted_first(JAM, AB, AC)), ([], (0, 0, 0)))
        self.assertEqual((risings.number_of_history(JAM, (EVERY, NONE)), risings.is_history(JAM, (EVERY, NONE))), (None, False))

    def test_floods(self):
        for talk in (EMPTY, LONE, FREE, SMALL):
            self.assertEqual((floods.can_be(talk), floods.stuck_lot(talk), floods.least_stuck_lots(talk), floods.waters(talk),
                              floods.fewest_waters(talk)), (True, (), [], [], 0))
            self.assertEqual((floods.lowest_floods(talk), floods.highest_floods(talk)), ((), ()))
            self.assertEqual((floods.how_many_orders(talk), floods.nth_order(talk, 0), floods.order_number(talk, ())), (1, (), 0))
            self.assertEqual((floods.is_order(talk, ()), floods.is_fit(talk, floods.fit_by(talk, ()))), (True, True))
        for talk in (EMPTY, LONE):
            self.assertEqual(floods.fit_by(talk, ()), ((), ()))
        dry = Talk.of("-; x: - / -; y: - / -")
        self.assertEqual((floods.waters(dry), floods.how_many_orders(dry), floods.highest_floods(dry)), ([("x", "y")], 2, ("x", "y")))
        self.assertIs(floods.is_fit(dry, floods.fit_by(dry, ("y", "x"))), True)


if __name__ == "__main__":
    unittest.main()
