"""Promise 4, the texts: of parts, of Talks, and Talk.of."""

import random
import re
import unittest

from lastfords.errors import BadText
from lastfords.talks import Talk, flood_text, pair_text, pairs_text, rule_text
from tests.helpers import AB, AC, BC, CD, Case, listed

NAME = "[a-z]{1,8}"
PAIR = f"{NAME}-{NAME}"
SOME = f"{PAIR}(?: {PAIR})*"
ISLANDS_FORM = re.compile(f"-|{NAME}(?: {NAME})*")
RULE_FORM = re.compile(f"({SOME})>({PAIR})")
FLOOD_FORM = re.compile(f"({NAME}): (-|{SOME}) / (-|{SOME})")

RIGHT = (
    "-", "a", "abcdefgh", "a b", "a aa b", "-; x: - / -", "a; x: - / -", "a b; a: a-b / a-b",
    "a b c; a-b>b-c", "a b c; a-b b-c>a-c; b-c>a-b", "a b c; a-b>b-c; a-b b-c>a-c",
    "a b c d; a-b>b-c; a-b c-d>a-c; high: a-d / b-c; low: - / a-b",
    "a aa ab b; a-aa a-ab aa-b>a-b; f: a-aa aa-ab / a-b; ff: - / -; g: - / aa-b ab-b",
)
WRONG = (
    "", " ", "  ", "- ", " -", "--", "a a", "b a", "a b a", "a b b", "a  b", " a", "a ", "abcdefghi", "A", "a B", "a1",
    "a,b", "a\tb", "a\n", "\na", "a\nb", "a- b", "- a", "a -", "\u00e4", "a \u0430", "a;", "a; ", "a;x: - / -",
    "; x: - / -", "x: - / -", "a-b>b-c", "a b c; ", "a b c;; a-b>b-c", "a b c ; a-b>b-c", "a b c;  a-b>b-c",
    "a b c; a-b>b-c;", "a b c; a-b>b-c; ", "a b c; a-b>b-c\n", "a b c; a-b > b-c", "a b c; a-b>", "a b c; >a-b",
    "a b c; ->a-b", "a b c; a-b>-", "a b c; a-b>a-b", "a b c; a-b b-c>b-c", "a b c; a-b>b-c>a-c", "a b c; a-b>>b-c",
    "a b c; b-a>b-c", "a b c; a-b>c-b", "a b c; a-a>b-c", "a b c; a-b-c>b-c", "a b c; a-b>b-c a-c", "a b c; a>b-c",
    "a b c; b-c a-b>a-c", "a b c; a-b a-b>a-c", "a b c; a-b  b-c>a-c", "a b c; a-b,b-c>a-c",
    "a b c; a-b>b-c; a-b>b-c", "a b c; b-c>a-b; a-b>b-c", "a b; a-b>b-c", "-; a-b>b-c", "a b c; a-d>b-c",
    "a b; x", "a b; x:", "a b; x: ", "a b; x: -", "a b; x: - /", "a b; x: - / ", "a b; x: / -", "a b; x:  / -",
    "a b; x: -/-", "a b; x: -  / -", "a b; x: - /  -", "a b; x:- / -", "a b; x : - / -", "a b; x: - / - / -",
    "a b; : - / -", "a b; -: - / -", "a b; X: - / -", "a b; abcdefghi: - / -", "a b; x y: - / -", "a b; x: x: - / -",
    "a b; x: a-c / -", "a b; x: - / a-c", "a b; x: b-a / -", "a b; x: - / a-a", "a b; x: a-b a-b / -",
    "a b c; x: a-c a-b / -", "a b; x: a-b - / -", "a b; x: - a-b / -", "a b; x: a-b / - -", "a b; x: a b / -",
    "a b; x: - / -; x: - / -", "a b; x: - / -; x: a-b / -", "a b; y: - / -; x: - / -",
    "a b c; x: - / -; a-b>b-c", "a b c; x: - / -; a-b>b-c; y: - / -", "a b; a b", "a b; -", "x: - / -; a b",
)
SIGNS = "abcz -;:/>,A1\n_\u00e4"


def pairs_of(text):
    """The pairs of islands that stand in a text of PAIRs."""
    return [] if text == "-" else [tuple(word.split("-")) for word in text.split(" ")]


def ascends(values):
    """Whether the values ascend, none twice."""
    return list(values) == sorted(set(values))


def is_text(text):
    """Whether a Talk has this text, told apart from the program by forms."""
    first, *others = text.split("; ")
    if not ISLANDS_FORM.fullmatch(first):
        return False
    islands = [] if first == "-" else first.split(" ")
    rules = [found.groups() for found in map(RULE_FORM.fullmatch, others) if found]
    floods = [found.groups() for found in map(FLOOD_FORM.fullmatch, others[len(rules):]) if found]
    if len(rules) + len(floods) != len(others):
        return False
    sets = [pairs_of(part) for wants, gives in rules for part in (wants, gives)]
    sets += [pairs_of(part) for _, joined, parted in floods for part in (joined, parted)]
    return (ascends(islands) and all(map(ascends, sets))
            and all(one < other and one in islands and other in islands for pairs in sets for one, other in pairs)
            and not any(gives in wants.split(" ") for wants, gives in rules)
            and ascends([(tuple(pairs_of(wants)), pairs_of(gives)[0]) for wants, gives in rules])
            and ascends([name for name, _, _ in floods]))


def some_talk(chance):
    """Some Talk."""
    islands = chance.sample(["a", "b", "c", "ab", "ba", "zz", "abcdefgh"], chance.randint(0, 6))
    pairs = sorted((one, other) for one in islands for other in islands if one < other)
    rules, floods = [], []
    for _ in range(chance.randint(0, 5) if len(pairs) > 1 else 0):
        gives, *wants = chance.sample(pairs, chance.randint(2, min(5, len(pairs))))
        rules.append((tuple(sorted(wants)), gives))
    for name in chance.sample(["a", "x", "xy", "y", "abcdefgh"], chance.randint(0, 5)):
        sets = [tuple(sorted(chance.sample(pairs, chance.randint(0, min(3, len(pairs)))))) for _ in range(2)]
        floods.append((name, *sets))
    return Talk(islands, rules, floods)


class PartTextsTest(Case):

    def test_parts(self):
        for form in (lambda value: value, listed):
            self.assertEqual((pair_text(form(AB)), pair_text(pair=form(("ab", "b")))), ("a-b", "ab-b"))
            self.assertEqual((pairs_text(form(())), pairs_text(form((AB,))), pairs_text(pairs=form((AB, CD)))),
                             ("-", "a-b", "a-b c-d"))
            self.assertEqual((rule_text(form(((AB,), BC))), rule_text(rule=form(((AB, CD), AC)))),
                             ("a-b>b-c", "a-b c-d>a-c"))
            self.assertEqual((flood_text(form(("x", (), ()))), flood_text(flood=form(("low", (AB, AC), (BC, CD))))),
                             ("x: - / -", "low: a-b a-c / b-c c-d"))
            self.assertEqual((flood_text(form(("x", (AB,), ()))), flood_text(form(("x", (), (AB,))))),
                             ("x: a-b / -", "x: - / a-b"))

    def test_a_talk_is_made_of_them(self):
        for text in RIGHT:
            talk = Talk.of(text)
            parts = [rule_text(rule) for rule in talk.rules] + [flood_text(flood) for flood in talk.floods]
            self.assertEqual(text, "; ".join([" ".join(talk.islands) or "-", *parts]))


class OfTest(Case):

    def test_right(self):
        for text in RIGHT:
            talk = Talk.of(text)
            self.assertIs(type(talk), Talk)
            self.assertEqual((talk.text, Talk.of(text=talk.text), is_text(text)), (text, talk, True))

    def test_what_is_told(self):
        talk = Talk.of("a b c; a-b>b-c; a-b b-c>a-c; p: a-b / -; q: - / a-b a-c")
        self.assertEqual((talk.islands, talk.rules, talk.floods), (
            ("a", "b", "c"), (((AB,), BC), ((AB, BC), AC)), (("p", (AB,), ()), ("q", (), (AB, AC)))))

    def test_rules_ascend_by_comparison_not_by_text(self):
        # By comparison a-b>b-c is ahead of a-b b-c>a-c, though as a text it is behind.
        self.assertEqual(Talk.of("a b c; a-b>b-c; a-b b-c>a-c").rules, (((AB,), BC), ((AB, BC), AC)))
        self.assert_error(BadText(), Talk.of, "a b c; a-b b-c>a-c; a-b>b-c")

    def test_wrong(self):
        for text in WRONG:
            self.assertFalse(is_text(text), text)
            self.assert_error(BadText(), Talk.of, text)

    def test_one_sign_changed_put_in_or_left_out(self):
        right = wrong = 0
        for text in RIGHT:
            bent = {text[:at] + text[at + 1:] for at in range(len(text))}
            bent.update(text[:at] + sign + text[at + 1:] for at in range(len(text)) for sign in SIGNS)
            bent.update(text[:at] + sign + text[at:] for at in range(len(text) + 1) for sign in SIGNS)
            for other in sorted(bent):
                if is_text(other):
                    right += 1
                    self.assertEqual(Talk.of(other).text, other)
                else:
                    wrong += 1
                    self.assert_error(BadText(), Talk.of, other)
        self.assertGreater(min(right, wrong), 100)

    def test_parts_put_elsewhere(self):
        for text in RIGHT:
            parts = text.split("; ")
            for at in range(len(parts)):
                for to in range(len(parts)):
                    moved = parts[:at] + parts[at + 1:]
                    moved.insert(to, parts[at])
                    for other in ("; ".join(moved), "; ".join(parts[:to] + [parts[at]] + parts[to:])):
                        if other == text:
                            self.assertEqual(Talk.of(other).text, text)
                        else:
                            self.assert_error(BadText(), Talk.of, other)

    def test_there_and_back(self):
        chance = random.Random(4)
        for _ in range(500):
            talk = some_talk(chance)
            self.assertTrue(is_text(talk.text))
            self.assertEqual((Talk.of(talk.text), Talk.of(talk.text).text), (talk, talk.text))

    def test_however_many(self):
        names = sorted(f"{a}{b}{c}" for a in "abcdefghij" for b in "abcdefghij" for c in "abcdefghij")
        floods = "".join(f"; {name}: - / -" for name in names)
        talk = Talk.of(" ".join(names) + floods)
        self.assertEqual((talk.islands, talk.names, len(talk)), (tuple(names), tuple(names), 1000))
        self.assert_error(BadText(), Talk.of, " ".join(names) + floods + "; aaa: - / -")


if __name__ == "__main__":
    unittest.main()
