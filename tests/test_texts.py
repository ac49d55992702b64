"""Promise 15: texts of PAIRs, RULEs and Boards, there and back, and bent by one sign."""

import random
import unittest

from lastfords.board import Board
from lastfords.errors import BadLine, BadText
from lastfords.talks import Talk, pair_text, rule_text
from lastfords.texts import board_in, board_text, pair_in, rule_in
from tests.helpers import Case
from tests.plain_board import drawn_deed
from tests.plain_texts import bent_texts, plain_board, plain_pair, plain_rule
from tests.reckoning import NAMES, all_rules, pairs_of
from tests.test_board import do_quietly

ODD = ("", " ", "-", "--", "a", "a-", "-b", "a-b ", " a-b", "a-b\n", "\na-b", "A-b", "a-B", "a_b", "a-b-c", "b-a", "a-a",
       "abcdefghi-z", "a-abcdefghi", "\u00e4-b", "a-\u00df", "a\u2010b", "1-2", "a-b>", ">a-b", "->a-b", "a-b>a-b", "a-b>-",
       "a-b >a-c", "a-b> a-c", "a-b>a-c>a-d", "a-b  a-c>a-d", "a-c a-b>a-d", "a-b a-b>a-c", "a-b a-c>a-c", "a-b,a-c>a-d",
       "a-b>c-a", "b-a>a-c", "a-b>a-c;", "a-b;a-c>a-d", "\ud800", "x" * 4000, "a-b" * 1000)


class PairsAndRulesTest(Case):

    def test_pairs(self):
        for islands in (NAMES, ("aa", "abcdefgh", "b", "bc"), ("from", "islands", "end", "x")):
            for pair in pairs_of(sorted(islands)):
                self.assert_same(pair_in(pair_text(pair)), pair)
                self.assert_same(pair_in(text=pair_text(pair)), pair)
                for text in bent_texts(pair_text(pair)):
                    self.check(pair_in, text, plain_pair(text))

    def test_rules(self):
        for rule in (*all_rules(NAMES[:3]), *all_rules(NAMES[:4])[::11], ((("aa", "b"), ("ab", "b")), ("from", "islands"))):
            self.assert_same(rule_in(rule_text(rule)), rule)
            self.assert_same(rule_in(text=rule_text(rule)), rule)
            for text in bent_texts(rule_text(rule))[::3]:
                self.check(rule_in, text, plain_rule(text))

    def test_odd_texts(self):
        for text in ODD:
            self.check(pair_in, text, plain_pair(text))
            self.check(rule_in, text, plain_rule(text))
            self.assert_error(BadText(), pair_in, text)
            self.assert_error(BadText(), rule_in, text)

    def check(self, function, text, expected):
        if expected is None:
            self.assert_error(BadText(), function, text)
        else:
            self.assert_same(function(text), expected)


def plain_board_text(board):
    lines = ["islands" + "".join(f" {island}" for island in board.islands)]
    lines += [f"{name}: {board[name].text}" for name in sorted(board.names)]
    lines += [f"{name} from {'*' if low is None else low} .. {'*' if high is None else high}" for name, low, high in board.frames]
    return "\n".join([*lines, "end"])


def drawn_boards(seed, islands, many):
    draw = random.Random(seed)
    for _ in range(many):
        board = Board(islands)
        for _ in range(draw.randint(0, 25)):
            do_quietly(board, drawn_deed(draw, islands))
        for name in board.names:
            low, high = (draw.choice((None, bound)) for bound in (Talk(islands), board[name]))
            if draw.random() < 0.7:
                do_quietly(board, ("frame", name, low, high))
        yield board


class BoardTextsTest(Case):

    def boards(self):
        yield from drawn_boards(16, NAMES[:3], 60)
        yield from drawn_boards(17, ("aa", "from", "x"), 15)
        yield from drawn_boards(18, NAMES[:4], 15)
        yield from (Board(), Board(("a",)))

    def test_there_and_back(self):
        framed = 0
        for board in self.boards():
            text = board_text(board)
            self.assertEqual(text, plain_board_text(board))
            self.assertEqual(board_text(board=board), text)
            found = board_in(text)
            self.assertTrue(found == board and type(found) is Board)
            self.assertTrue(board_in(text=text) == board)
            self.assertEqual(board_text(found), text)
            self.assertIs(found.undo(), False)
            framed += len(board.frames) > 1
        self.assertGreater(framed, 5)

    def test_the_board_that_is_read_goes_on(self):
        board = board_in("islands a b c\nx: a b c; a-b>b-c\nx from a b c .. *\nend")
        board.lift("x")
        board.leave("x")
        self.assertEqual((len(board), board.undo(), board.undo(), board.undo()), (0, True, True, False))
        self.assertEqual(board.frames, (("x", "a b c", None),))

    def check(self, text):
        """Just what is written so is a Board, and the first wrong line is told."""
        expected = plain_board(text)
        if isinstance(expected, int):
            self.assert_error(BadLine(expected), board_in, text)
            return False
        talks, frames = expected
        board = board_in(text)
        self.assertEqual({name: board[name] for name in board.names}, talks)
        self.assertEqual(board.frames, tuple((name, *[bound if bound is None else bound.text for bound in frames[name]])
                                             for name in sorted(frames)))
        self.assertEqual(board_text(board), text)
        return True

    def test_bent_by_one_sign(self):
        right, wrong = 0, 0
        for board in list(self.boards())[::6]:
            texts = bent_texts(board_text(board))
            for text in texts[::max(1, len(texts) // 400)]:
                found = self.check(text)
                right, wrong = right + found, wrong + (not found)
        self.assertGreater(right, 20)
        self.assertGreater(wrong, 2000)

    def test_lines_left_out_doubled_or_turned_about(self):
        for board in list(self.boards())[::3]:
            lines = board_text(board).split("\n")
            for place in range(len(lines)):
                for changed in (lines[:place] + lines[place + 1:], lines[:place] + lines[place:place + 1] + lines[place:],
                                lines[:place] + lines[place:place + 2][::-1] + lines[place + 2:], lines[:place], lines[place:],
                                [*lines[:place], "", *lines[place:]], [*lines[:place], "end", *lines[place:]],
                                [*lines[:place], "islands a", *lines[place:]], [*lines[:place], "y: a b", *lines[place:]],
                                [*lines[:place], "zz: " + " ".join(board.islands), *lines[place:]]):
                    self.check("\n".join(changed))

    def test_wrong_lines(self):
        start = "islands a b c\nx: a b c; a-b>b-c\nz: a b c; f: a-b / -\n"
        for text, number in (
                ("", 0), ("\n", 0), ("end", 0), ("islands", 1), ("islands a b c", 1), ("islands\nend\n", 2), ("islands\n", 1),
                ("islands \nend", 0), ("islands b a\nend", 0), ("islands a a\nend", 0), ("islands a  b\nend", 0),
                ("islands -\nend", 0), ("islandsa\nend", 0), ("islands a\tb\nend", 0), ("islands abcdefghi\nend", 0),
                (start + "end\nend", 4), (start + "end\n", 4), (start, 3), (start[:-1], 3), (start + "end ", 3),
                (start + "y: a b c\nend", 3), (start + "z: a b c\nend", 3), (start + "zz: a b\nend", 3),
                (start + "zz: a b c d\nend", 3), (start + "zz: a b c; f: a-b / a-b\nend", 3), (start + "zz:  a b c\nend", 3),
                (start + "zz:a b c\nend", 3), (start + "x from * .. *\nx from * .. *\nend", 4), (start + "y from * .. *\nend", 3),
                (start + "z from * .. *\nx from * .. *\nend", 4), (start + "x from * .. *\nzz: a b c\nend", 4),
                (start + "x from a b .. *\nend", 3), (start + "x from * .. a b c d\nend", 3), (start + "x from * .. a b c\nend", 3),
                (start + "x from a b c; a-c>a-b .. *\nend", 3), (start + "x from  * .. *\nend", 3), (start + "x from *..*\nend", 3),
                (start + "x from * .. *\nz from * .. * \nend", 4), (start + "x from * .. *\n\nend", 4),
                (start + "x from * .. *\nz from a b c .. *", 5)):
            self.assert_error(BadLine(number), board_in, text)
            self.assertEqual(plain_board(text), number)
        for text in (start + "end", start + "x from * .. *\nend", start + "z from a b c; q: a-b / a-b .. a b c; a-b>a-c\nend"):
            self.assertEqual(board_text(board_in(text)), text)

    def test_islands_called_like_words(self):
        board = Board(("end", "from", "islands"))
        board["from"] = Talk.of("end from islands; end-from>from-islands; from: - / end-from")
        board.frame("from", Talk.of("end from islands"), None)
        text = board_text(board)
        self.assertEqual(text, "islands end from islands\nfrom: end from islands; end-from>from-islands; from: - / end-from\n"
                               "from from end from islands .. *\nend")
        self.assertTrue(board_in(text) == board)


if __name__ == "__main__":
    unittest.main()
