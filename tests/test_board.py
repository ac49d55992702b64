"""Promise 14: a Board, against a plain one, by drawn deeds."""

import random
import unittest

from lastfords import errors, sure
from lastfords.board import Board
from lastfords.errors import (NoFlood, NoFrame, NoIsland, NoTalk, OtherIslands, Outside, Stopped, Stuck)
from lastfords.talks import Talk
from tests.helpers import AB, AC, BC, Case, listed
from tests.plain_board import PlainBoard, Refused, drawn_deed, drawn_deeds, drawn_talk
from tests.reckoning import NAMES

FREE = Talk.of("a b c")
SOME = Talk.of("a b c; a-b>b-c")
MORE = Talk.of("a b c; a-b>b-c; b-c>a-b")
WET = Talk.of("a b c; a-b>b-c; f: a-b / -")


def do(board, deed):
    """Does a deed that is told as a tuple."""
    word, name, *given = deed
    if word == "set":
        board[name] = given[0]
    elif word == "add":
        board += (name, given[0])
    else:
        return getattr(board, word)(name, *given)


def error_of(raised, value):
    return getattr(errors, raised)() if value is None else getattr(errors, raised)(value)


class BoardCase(Case):

    def check(self, board, plain, draw):
        """Both tell the same."""
        names = tuple(sorted(plain.told))
        self.assertEqual((board.islands, board.names, len(board)), (plain.islands, names, len(names)))
        self.assertEqual([board[name] for name in names], [plain.talk(name) for name in names])
        self.assertEqual(board.frames, plain.frames())
        self.assertEqual(board.doubled(), plain.doubled())
        for name in names:
            self.assertIn(name, board)
            self.assertEqual(board.above(name), plain.above(name))
            talk = drawn_talk(draw, plain.islands)
            if talk.islands == plain.islands:
                self.assertEqual(board.effect(name, talk), plain.effect(name, talk))
            else:
                self.assert_error(OtherIslands(), board.effect, name, talk)
            self.check_floods(board, name, board[name])
        self.assertNotIn("zz", board)
        self.assert_error(NoTalk("zz"), board.__getitem__, "zz")

    def check_floods(self, board, name, talk):
        for one in talk.names:
            self.assertEqual(board.stands(name, one, talk.names[0]), sure.stands(talk, one, talk.names[0]))
            for pair in talk.pairs[:2]:
                self.assertEqual(board.shown(name, one, pair), sure.shown(talk, one, pair))

    def do_both(self, board, plain, deed):
        """Does it on both; by which error it was refused, None if it was done."""
        twin = board.twin()
        try:
            plain.do(deed)
        except Refused as refused:
            self.assert_error(error_of(refused.raised, refused.value), do, board, deed)
            self.assertTrue(board == twin)
            return refused.raised
        self.assertIsNone(do(board, deed))
        return None


class DrawnTest(BoardCase):

    def test_deeds(self):
        draw = random.Random(12)
        seen = {}
        for islands in (*[NAMES[:3]] * 80, *[NAMES[:4]] * 10):
            board, plain = Board(islands), PlainBoard(islands)
            for _ in range(14):
                raised = self.do_both(board, plain, drawn_deed(draw, islands))
                seen[raised] = seen.get(raised, 0) + 1
                self.check(board, plain, draw)
                if draw.random() < 0.15:
                    self.assertIs(board.undo(), plain.undo())
                    self.check(board, plain, draw)
        for raised in ("NoTalk", "NoIsland", "OtherIslands", "Stuck", "Outside", "NoFrame"):
            self.assertGreater(seen[raised], 4, raised)
        self.assertGreater(seen[None], 150)

    def test_undo_of_all_deeds(self):
        draw = random.Random(13)
        for _ in range(25):
            board, plain = Board(NAMES[:3]), PlainBoard(NAMES[:3])
            for _ in range(12):
                self.do_both(board, plain, drawn_deed(draw, NAMES[:3]))
            twin = board.twin()
            for one in (board, twin):
                kept = list(plain.past)
                told = plain.told
                while plain.undo():
                    self.assertIs(one.undo(), True)
                    self.check(one, plain, draw)
                self.assertIs(one.undo(), False)
                self.assertTrue(one == Board(NAMES[:3]))
                plain.told, plain.past = told, kept

    def test_attempts(self):
        draw = random.Random(14)
        stopped, whole = 0, 0
        for _ in range(120):
            board, plain = Board(NAMES[:3]), PlainBoard(NAMES[:3])
            for _ in range(10):
                deeds = drawn_deeds(draw, NAMES[:3])
                twin, refused = board.twin(), plain.attempt(deeds)
                if refused is None:
                    self.assertIsNone(board.attempt(draw.choice((deeds, listed(deeds)))))
                    whole += len(deeds) > 1
                else:
                    self.assert_error(Stopped(*refused), board.attempt, deeds)
                    self.assertTrue(board == twin)
                    stopped += refused[0] > 0
                self.check(board, plain, draw)
            while plain.undo():
                self.assertIs(board.undo(), True)
                self.check(board, plain, draw)
            self.assertIs(board.undo(), False)
        self.assertGreater(min(stopped, whole), 30)

    def test_twins_go_their_own_ways(self):
        draw = random.Random(15)
        for _ in range(25):
            board, plain = Board(NAMES[:3]), PlainBoard(NAMES[:3])
            for _ in range(6):
                self.do_both(board, plain, drawn_deed(draw, NAMES[:3]))
            twin = board.twin()
            self.assertTrue(twin == board and type(twin) is Board)
            for _ in range(6):
                do_quietly(twin, drawn_deed(draw, NAMES[:3]))
                self.check(board, plain, draw)
            while twin.undo():
                self.check(board, plain, draw)
            twin = board.twin()
            while board.undo():
                pass
            self.check(twin, plain, draw)


def do_quietly(board, deed):
    try:
        do(board, deed)
    except (LookupError, ValueError):
        pass


class DeedsTest(BoardCase):

    def board(self, **talks):
        board = Board(("c", "a", "b", "a"))
        for name, talk in talks.items():
            board[name] = talk
        return board

    def test_empty(self):
        for board in (Board(), Board(islands=[]), Board(("b", "a"))):
            self.assertEqual((board.names, len(board), board.frames, board.doubled(), board.undo()), ((), 0, (), (), False))
        self.assertEqual((Board().islands, Board(("b", "a", "b")).islands, Board(["b"]).islands), ((), ("a", "b"), ("b",)))
        bare = Board()
        bare["x"] = Talk.of("-; f: - / -; g: - / -")
        self.assertEqual((bare["x"].text, bare.stands("x", "f", "g"), bare.effect("x", Talk())), ("-; f: - / -; g: - / -", "open", "alike"))

    def test_checks_in_their_order(self):
        board = self.board(x=WET)
        board.frame("x", SOME, SOME)
        before = board.twin()
        stuck = Talk.of("a b c; a-b>b-c; b-c>a-b; g: a-c / a-c")
        for expected, deed in (
                (OtherIslands(), ("set", "x", Talk.of("a b; f: a-b / a-b"))), (OtherIslands(), ("set", "new", Talk())),
                (Stuck(("g",)), ("set", "x", stuck)), (Stuck(("g",)), ("set", "new", stuck)), (Outside("x"), ("set", "x", MORE)),
                (Outside("x"), ("set", "x", FREE)),
                (NoTalk("y"), ("leave", "y")), (NoTalk("y"), ("lift", "y")), (NoTalk("y"), ("add", "y", ((("a", "z"),), BC))),
                (NoTalk("y"), ("tell", "y", "f", ("y", "z"), True)), (NoTalk("y"), ("frame", "y", Talk(), MORE)),
                (NoIsland("z"), ("add", "x", ((AB, ("b", "z")), ("q", "z")))), (NoIsland("q"), ("add", "x", ((AB,), ("q", "z")))),
                (Outside("x"), ("add", "x", ((BC,), AB))),
                (NoIsland("z"), ("tell", "x", "f", ("a", "z"), False)), (NoIsland("q"), ("tell", "x", "new", ("q", "z"), True)),
                (Stuck(("f",)), ("tell", "x", "f", AB, False)), (Stuck(("f",)), ("tell", "x", "f", AC, False)),
                (OtherIslands(), ("frame", "x", Talk(), MORE)), (OtherIslands(), ("frame", "x", MORE, Talk.of("a b"))),
                (Outside("x"), ("frame", "x", MORE, None)), (Outside("x"), ("frame", "x", None, FREE))):
            self.assert_error(expected, do, board, deed)
            self.assertTrue(board == before, deed)
            values = list(vars(expected).values())
            self.assert_error(Stopped(0, type(expected).__name__, values[0] if values else None), board.attempt, (deed,))
            self.assert_error(Stopped(1, type(expected).__name__, values[0] if values else None), board.attempt,
                              [["leave", "x"], ["leave", "x"]] if deed == ("leave", "x") else (("set", "w", FREE), deed))
            self.assertTrue(board == before, deed)
        self.assertEqual((board.undo(), board.undo(), board.undo()), (True, True, False))

    def test_stuck_ahead_of_outside(self):
        board = self.board(x=WET)
        board.frame("x", SOME, SOME)
        self.assert_error(Stuck(("f",)), do, board, ("set", "x", Talk.of("a b c; b-c>a-b; f: b-c / a-b")))
        # This RULE is outside, but the FLOOD, too, can not be with it.
        board.tell("x", "g", BC, True)
        board.tell("x", "g", AB, False)
        self.assert_error(Stuck(("g",)), do, board, ("add", "x", ((BC,), AB)))

    def test_no_frame(self):
        board = self.board(x=WET)
        self.assert_error(NoFrame("x"), board.lift, "x")
        board.frame("x", None, None)
        self.assertEqual(board.frames, (("x", None, None),))
        self.assertIsNone(board.lift("x"))
        self.assertEqual(board.frames, ())
        self.assert_error(NoFrame("x"), board.lift, name="x")

    def test_a_talk_set_again_keeps_its_frame(self):
        board = self.board(x=SOME)
        board.frame("x", FREE, MORE)
        board["x"] = MORE
        self.assertEqual((board["x"], board.frames), (MORE, (("x", "a b c", MORE.text),)))
        board.leave("x")
        self.assertEqual((board.frames, "x" in board), ((), False))
        board["x"] = SOME
        self.assertEqual(board.frames, ())
        board.undo(), board.undo()
        self.assertEqual((board["x"], board.frames), (MORE, (("x", "a b c", MORE.text),)))
        board.undo()
        self.assertEqual((board["x"], board.frames), (SOME, (("x", "a b c", MORE.text),)))

    def test_frames_look_at_rules_alone_and_need_not_be_able_to_be(self):
        board = self.board(x=WET)
        torn = Talk.of("a b c; a-b>b-c; q: a-b / a-b")
        board.frame("x", torn, torn)
        self.assertEqual(board.frames, (("x", torn.text, torn.text),))
        board.tell("x", "h", BC, True)
        self.assert_error(Outside("x"), do, board, ("add", "x", ((AC,), AB)))
        self.assertIsNone(do(board, ("add", "x", ((AB,), AC))))

    def test_a_frame_in_the_place_of_an_earlier_one(self):
        board = self.board(x=SOME)
        board.frame("x", SOME, SOME)
        board.frame(name="x", low=None, high=MORE)
        self.assertEqual(board.frames, (("x", None, MORE.text),))
        self.assertIsNone(do(board, ("set", "x", FREE)))

    def test_deeds_that_change_nothing_are_deeds(self):
        board = self.board(x=WET)
        board += ("x", ((AB,), BC))
        board += ["x", [[["a", "b"]], ["b", "c"]]]
        board.tell("x", "f", AB, True)
        board["x"] = WET
        board.attempt(())
        board.attempt([])
        self.assertEqual(board["x"], WET)
        self.assertEqual([board.undo() for _ in range(8)], [True] * 7 + [False])

    def test_a_refused_deed_is_none_to_take_back(self):
        board = self.board(x=WET)
        for _ in range(3):
            self.assert_error(NoTalk("y"), board.leave, "y")
            self.assert_error(Stopped(0, "NoTalk", "y"), board.attempt, (("leave", "y"),))
        self.assertEqual((board.undo(), board.undo(), len(board)), (True, False, 0))

    def test_an_attempt_is_one_deed(self):
        board = self.board(x=WET)
        board.attempt((("set", "y", SOME), ("frame", "y", None, None), ("add", "y", ((BC,), AB)), ("tell", "x", "n", AC, False),
                       ("leave", "x"), ("lift", "y")))
        self.assertEqual((board.names, board["y"], board.frames), (("y",), MORE, ()))
        self.assertIs(board.undo(), True)
        self.assertTrue(board == self.board(x=WET))

    def test_a_new_flood(self):
        board = self.board(x=SOME)
        board.tell("x", "low", AB, False)
        board.tell(name="x", flood="low", pair=["a", "c"], joined=True)
        self.assertEqual(board["x"].text, "a b c; a-b>b-c; low: a-c / a-b")

    def test_asked_about_floods(self):
        board = self.board(x=Talk.of("a b c; x: a-b / -; y: - / b-c; z: a-c / a-b"))
        self.assertEqual((board.stands("x", "x", "z"), board.stands(name="x", one="y", other="x"), board.stands("x", "y", "y")),
                         ("lower", "higher", "open"))
        self.assertEqual((board.shown("x", "y", ["a", "b"]), board.shown(name="x", flood="x", pair=AB), board.shown("x", "y", AC)),
                         ("parted", "joined", "open"))
        for expected, action, given in (
                (NoTalk("q"), board.stands, ("q", "s", "t")), (NoFlood("s"), board.stands, ("x", "s", "t")),
                (NoFlood("t"), board.stands, ("x", "x", "t")), (NoTalk("q"), board.shown, ("q", "s", ("a", "r"))),
                (NoFlood("s"), board.shown, ("x", "s", ("a", "r"))), (NoIsland("r"), board.shown, ("x", "x", ("a", "r"))),
                (NoTalk("q"), board.above, ("q",)), (NoTalk("q"), board.effect, ("q", Talk())),
                (OtherIslands(), board.effect, ("x", Talk())), (NoTalk("q"), board.__getitem__, ("q",))):
            before = board.twin()
            self.assert_error(expected, action, *given)
            self.assertTrue(board == before)

    def test_above_doubled_effect(self):
        board = self.board(v=FREE, w=Talk.of("a b c; a-b>a-c"), x=SOME, y=MORE, z=Talk.of(SOME.text), u=FREE, t=WET)
        self.assertEqual(board.above("x"), ("t", "w", "y", "z"))
        self.assertEqual((board.above("y"), board.above("v")), ((), ("t", "u", "w", "x", "y", "z")))
        self.assertEqual(board.doubled(), ("v", "z"))
        self.assertEqual([board.effect("x", talk) for talk in (WET, FREE, MORE, Talk.of("a b c; b-c>a-b"))],
                         ["alike", "more", "less", "apart"])

    def test_deeds_are_copied(self):
        board = self.board(x=SOME)
        rule, pair = [[["a", "c"]], ["a", "b"]], ["b", "c"]
        board += ("x", rule)
        board.tell("x", "n", pair, True)
        deeds = [["add", "x", [[["a", "c"]], ["b", "c"]]], ["tell", "x", "m", ["a", "b"], False]]
        board.attempt(deeds)
        text = board["x"].text
        rule[0][0][0], pair[0], deeds[0][2][1][0], deeds[1][3][0] = "z", "z", "z", "z"
        deeds.clear()
        self.assertEqual(board["x"].text, text)
        self.assertEqual(text, "a b c; a-b>b-c; a-c>a-b; a-c>b-c; m: - / a-b; n: b-c / -")


class SignsTest(BoardCase):

    def test_equal(self):
        one, other = Board(("a", "b", "c")), Board(["c", "b", "a"])
        self.assertTrue(one == other and not one != other)
        one["x"] = SOME
        self.assertFalse(one == other)
        other["x"] = Talk.of("a b c; a-b>a-c")
        self.assertFalse(one == other)
        other["x"] = Talk.of(SOME.text)
        self.assertTrue(one == other)
        one.frame("x", None, None)
        self.assertFalse(one == other)
        other.frame("x", None, MORE)
        self.assertFalse(one == other)
        one.frame("x", None, Talk.of(MORE.text))
        self.assertTrue(one == other)
        one.frame("x", FREE, MORE)
        self.assertFalse(one == other)
        self.assertFalse(Board() == Board(("a",)))
        one.leave("x")
        other.leave("x")
        self.assertTrue(one == other == Board(("a", "b", "c")))

    def test_a_board_equals_nothing_else(self):
        board = Board(("a",))
        for foreign in (None, True, 0, "", "a", (), [], {}, ("a",), Talk(("a",)), object()):
            self.assertIs(board == foreign, False)
            self.assertIs(foreign == board, False)
            self.assertIs(board != foreign, True)

    def test_not_to_be_gone_through(self):
        board = Board(("a", "b", "c"))
        for _ in range(2):
            for action in (iter, list, tuple, set, sorted, lambda value: [*value], lambda value: dict(zip(value, value)), max):
                with self.assertRaises(TypeError):
                    action(board)
            board["x"] = FREE
        with self.assertRaises(TypeError):
            list(reversed(board))
        self.assertTrue("x" in board and "y" not in board and len(board) == 1)

    def test_properties_have_no_setters(self):
        board = Board(("a", "b", "c"))
        board["x"] = FREE
        for name in ("islands", "names", "frames"):
            with self.assertRaises(AttributeError):
                setattr(board, name, ())
        self.assertEqual((board.islands, board.names, board.frames), (("a", "b", "c"), ("x",), ()))

    def test_the_same_board_behind_a_rule(self):
        board = Board(("a", "b", "c"))
        board["x"] = FREE
        same = board
        board += ("x", ((AB,), BC))
        self.assertIs(board, same)
        self.assertEqual(same["x"], SOME)

    def test_kinds(self):
        board = Board(("a", "b", "c"))
        board["x"] = FREE
        board.frame("x", None, None)
        for value in (board.islands, board.names, board.frames, board.frames[0], board.above("x"), board.doubled()):
            self.assertIs(type(value), tuple)
        self.assertIs(type(board.undo()), bool)


if __name__ == "__main__":
    unittest.main()
