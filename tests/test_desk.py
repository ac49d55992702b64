"""Promise 16: requests, against a Board that does the same, and bent by one sign."""

import random
import re
import unittest

from lastfords.board import Board
from lastfords.desk import answers
from lastfords.errors import BadLine, NoFlood, NoFrame, NoIsland, NoTalk, OtherIslands, Outside, Stuck
from lastfords.talks import Talk, pair_text, rule_text
from tests.helpers import Case
from tests.plain_board import drawn_bound, drawn_deed, drawn_talk
from tests.plain_texts import NAME, PAIR, bent_texts, plain_frame, plain_islands, plain_pair, plain_rule, plain_talk
from tests.reckoning import NAMES, pairs_of

REFUSALS = (NoTalk, NoIsland, NoFlood, NoFrame, OtherIslands, Stuck, Outside)
PATTERNS = {
    re.compile(f"(?:leave|lift|above) {NAME}"): (),
    re.compile("undo|doubled"): (),
    re.compile(f"stands {NAME} {NAME} {NAME}"): (),
    re.compile(f"shown {NAME} {NAME} ({PAIR})"): (plain_pair,),
    re.compile(f"tell {NAME} {NAME} (?:joined|parted) ({PAIR})"): (plain_pair,),
    re.compile(f"(?:talk|effect) {NAME} (.*)"): (plain_talk,),
    re.compile(f"add {NAME} (.*)"): (plain_rule,),
    re.compile("frame (.*)"): (plain_frame,),
}


def is_request(line):
    """Whether the line is so written, by patterns."""
    for pattern, readers in PATTERNS.items():
        found = pattern.fullmatch(line)
        if found and all(reader(part) is not None for reader, part in zip(readers, found.groups())):
            return True
    return False


def bound_text(bound):
    return "*" if bound is None else bound.text


def deed_line(deed):
    """The request that asks for this deed."""
    word, name, *given = deed
    if word == "set":
        return f"talk {name} {given[0].text}"
    if word == "add":
        return f"add {name} {rule_text(given[0])}"
    if word == "tell":
        return f"tell {name} {given[0]} {'joined' if given[2] else 'parted'} {pair_text(given[1])}"
    if word == "frame":
        return f"frame {name} from {bound_text(given[0])} .. {bound_text(given[1])}"
    return f"{word} {name}"


def words(names):
    return " ".join(names) or "-"


def done(board, request):
    """What the Board answers to a request that is told as a tuple."""
    word, *given = request
    if word == "set":
        board[given[0]] = given[1]
    elif word == "add":
        board += tuple(given)
    elif word in ("above", "doubled"):
        return words(getattr(board, word)(*given))
    elif word == "undo":
        return "yes" if board.undo() else "no"
    elif word in ("stands", "shown", "effect"):
        return getattr(board, word)(*given)
    else:
        getattr(board, word)(*given)
    return "done"


def answer(board, request):
    try:
        return done(board, request)
    except REFUSALS as error:
        return "refused " + type(error).__name__


def drawn_request(draw, islands):
    """A pair of a request and its line."""
    name, flood, other = draw.choice(("p", "q", "r")), draw.choice(("f", "g", "h")), draw.choice(("f", "g", "h"))
    pair = draw.choice(pairs_of(islands if draw.random() < 0.9 else (*islands, "zz")))
    word = draw.choice(("deed",) * 8 + ("stands", "shown", "above", "doubled", "effect", "undo", "frame"))
    if word == "deed":
        deed = drawn_deed(draw, islands)
        return (deed, deed_line(deed))
    if word == "stands":
        return ((word, name, flood, other), f"stands {name} {flood} {other}")
    if word == "shown":
        return ((word, name, flood, pair), f"shown {name} {flood} {pair_text(pair)}")
    if word == "effect":
        talk = drawn_talk(draw, islands)
        return ((word, name, talk), f"effect {name} {talk.text}")
    if word == "frame":
        deed = (word, name, drawn_bound(draw, islands[:2] if draw.random() < 0.2 else islands), None)
        return (deed, deed_line(deed))
    if word == "above":
        return ((word, name), f"above {name}")
    return ((word,), word)


class DeskTest(Case):

    def test_drawn_requests(self):
        draw = random.Random(19)
        seen = {}
        for islands in (*[NAMES[:3]] * 400, *[NAMES[:4]] * 30, *[("ab", "b", "cd")] * 30):
            board, expected, lines = Board(islands), ["done"], ["islands " + " ".join(islands)]
            pairs = pairs_of(islands)
            start = ("set", "p", Talk(islands, (), [("f", pairs[:1], ()), ("g", (), draw.choice((pairs[:1], pairs[1:])))]))
            requests = [(start, deed_line(start)), *(drawn_request(draw, islands) for _ in range(draw.randint(0, 30)))]
            for request, line in requests[draw.randint(0, 1):]:
                expected.append(answer(board, request))
                lines.append(line)
            self.assertEqual(answers("\n".join(lines)), expected)
            self.assertEqual(answers(text="\n".join(lines)), expected)
            for word in expected:
                seen[word] = seen.get(word, 0) + 1
        for word in ("done", "yes", "no", "-", "open", "higher", "lower", "joined", "parted", "alike", "more", "less", "apart",
                     "p", *["refused " + kind.__name__ for kind in REFUSALS]):
            self.assertGreater(seen.get(word, 0), 1, word)

    def test_a_refused_request_changes_nothing(self):
        start = ("islands a b c\ntalk x a b c; a-b>b-c; f: a-b / -\nframe x from a b c; a-b>b-c .. a b c; a-b>b-c\n")
        for line, why in (
                ("talk x a b", "OtherIslands"), ("talk x a b c; g: a-b / a-b", "Stuck"), ("talk x a b c", "Outside"),
                ("leave y", "NoTalk"), ("lift y", "NoTalk"), ("add x a-d>a-b", "NoIsland"), ("add y a-d>a-b", "NoTalk"),
                ("add x a-c>a-b", "Outside"), ("tell x f parted a-b", "Stuck"), ("tell x f joined a-q", "NoIsland"),
                ("tell y f joined a-q", "NoTalk"), ("frame y from * .. *", "NoTalk"), ("frame x from a b .. *", "OtherIslands"),
                ("frame x from * .. a b c", "Outside"), ("frame x from a b c; a-c>a-b .. a b c d", "OtherIslands"),
                ("stands y f f", "NoTalk"), ("stands x f g", "NoFlood"), ("stands x g f", "NoFlood"), ("shown x f a-q", "NoIsland"),
                ("shown x g a-q", "NoFlood"), ("shown y g a-q", "NoTalk"), ("above y", "NoTalk"), ("effect y a b", "NoTalk"),
                ("effect x a b", "OtherIslands")):
            found = answers(start + line + "\nshown x f b-c\nstands x f f\nadd x a-c>a-b\nundo\nundo\nundo\nlift x")
            self.assertEqual(found, ["done", "done", "done", "refused " + why, "joined", "open", "refused Outside",
                                     "yes", "yes", "no", "refused NoTalk"], line)
        self.assertEqual(answers("islands a b c\ntalk x a b c\nlift x")[2], "refused NoFrame")

    def test_answers_with_names(self):
        text = "islands a b c\ntalk z a b c\ntalk y a b c; a-b>b-c\ntalk x a b c; a-b>b-c\nabove z\nabove y\nabove x\ndoubled\nleave x\ndoubled\nabove y"
        self.assertEqual(answers(text)[4:], ["x y", "x", "y", "y", "done", "-", "-"])

    def test_the_first_line(self):
        for line in ("islands", "islands a", "islands a b", "islands aa ab abcdefgh", "islands islands undo"):
            self.assertEqual(answers(line), ["done"])
            self.assertIsNotNone(plain_islands(line))
        for line in (" ", "\n", "islands ", " islands", "islands  a", "islands a ", "islands b a", "islands a a", "islands -", "islands A",
                     "islands abcdefghi", "islandsa", "island", "undo", "doubled", "ISLANDS", "islands a,b", "islands a\tb",
                     "islands \u00e4", "\nislands"):
            self.assert_error(BadLine(0), answers, line)
            self.assert_error(BadLine(0), answers, line + "\nundo")
        self.assertEqual(answers(""), [])
        self.assertEqual(type(answers("")), list)

    def test_bad_lines_ahead_of_all_answers(self):
        for number in range(1, 5):
            lines = ["islands a b", "talk x a b", "leave y", "undo", "doubled"]
            lines[number] = "what"
            self.assert_error(BadLine(number), answers, "\n".join(lines))
            lines[4] = "islands a b"
            self.assert_error(BadLine(number), answers, "\n".join(lines))
        self.assert_error(BadLine(1), answers, "islands a b\n")
        self.assert_error(BadLine(3), answers, "islands a b\nundo\nundo\n")
        self.assert_error(BadLine(1), answers, "islands a b\nislands a b")
        self.assert_error(BadLine(1), answers, "islands a b\n\nundo")

    def test_bent_by_one_sign(self):
        draw = random.Random(20)
        right, wrong = 0, 0
        lines = {line for _ in range(60) for _, line in (drawn_request(draw, NAMES[:3]),)}
        for line in sorted(lines | {"undo", "doubled", "lift x", "leave x", "above x", "stands x f g", "tell p from joined a-b"}):
            self.assertTrue(is_request(line), line)
            texts = [text for text in bent_texts(line) if "\n" not in text]
            for text in texts[::max(1, len(texts) // 250)]:
                if is_request(text):
                    self.assertEqual(len(answers("islands a b c\n" + text)), 2, text)
                    right += 1
                else:
                    self.assert_error(BadLine(1), answers, "islands a b c\n" + text)
                    wrong += 1
        self.assertGreater(right, 300)
        self.assertGreater(wrong, 3000)

    def test_what_is_no_request(self):
        for line in (
                "", " ", "undo ", " undo", "undo x", "doubled ", "doubled x", "Undo", "leave", "leave ", "leave x ", "leave  x", "leave x y",
                "leave X", "leave abcdefghi", "lift", "lift x y", "above", "above x y", "add x", "add x ", "add x a-b", "add x a-b>a-b",
                "add x a-b>b-a", "add x ->a-b", "add  x a-b>a-c", "add x a-b>a-c ", "add x  a-b>a-c", "add a-b>a-c", "tell x f a-b",
                "tell x f joined", "tell x f joined a-b a-c", "tell x f Joined a-b", "tell x f open a-b", "tell x joined a-b", "tell x f joined b-a",
                "tell x  joined a-b", "talk x", "talk x ", "talk x  a b", "talk x a  b", "talk x b a", "talk x a b;", "talk x a b; a-b>a-b",
                "talk X a b", "talk a b; f: a-b / -;", "talk x a b; f: a-b /", "talk x *", "effect x *", "effect x", "effect x a b ",
                "frame x", "frame x from *", "frame x from * ..", "frame x from * .. ", "frame x from .. *", "frame x * .. *",
                "frame x from * .. * ", "frame x from *  .. *", "frame x from a b .. b a", "frame x from ** .. *", "frame x  from * .. *",
                "frame x y from * .. *", "frame from * .. *", "stands x f", "stands x f g h", "stands x f-g h", "shown x f", "shown x f a",
                "shown x f b-a", "shown x f a-b c", "shown x a-b", "islands", "islands a b", "set x a b", "attempt", "twin", "end"):
            self.assertFalse(is_request(line), line)
            self.assert_error(BadLine(1), answers, "islands a b\n" + line)

    def test_names_like_words(self):
        text = ("islands from joined undo\ntalk from from joined undo; from-joined>from-undo\nframe from from * .. from joined undo; from-joined>from-undo\n"
                "tell from joined joined from-undo\ntell from parted parted from-undo\nstands from joined parted\nshown from parted from-joined\n"
                "talk undo from joined undo\nleave undo\nundo\nundo\nlift from")
        self.assertEqual(answers(text), ["done", "done", "done", "done", "done", "lower", "parted", "done", "done", "yes", "yes", "done"])

    def test_without_islands(self):
        self.assertEqual(answers("islands\ntalk x -\ntalk y -; f: - / -\nstands y f f\neffect x -\nabove x\ndoubled\nframe x from - .. -\nadd x a-b>b-c\ntalk z a"),
                         ["done", "done", "done", "open", "alike", "y", "-", "done", "refused NoIsland", "refused OtherIslands"])

    def test_asked_twice(self):
        text = "islands a b\ntalk x a b; f: a-b / -\nshown x f a-b\nundo"
        first = answers(text)
        expected = list(first)
        first.clear()
        self.assertEqual(answers(text), expected)


if __name__ == "__main__":
    unittest.main()
