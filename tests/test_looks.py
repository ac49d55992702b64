"""Promise 11: LOOKs, against all rows of states, and against all small FITs."""

import functools
import itertools
import random
import unittest

from lastfords.errors import NoFlood, NoLook, NoNumber, NothingDone
from lastfords.floods import can_be
from lastfords.looks import (Looks, answered, best_look, depth_of, fewest_looks, how_many_sights, is_look, is_plan,
                             is_sight, left_by, number_of_sight, open_looks, plan, sight_at)
from lastfords.sure import shown
from lastfords.talks import Talk, flood_told
from tests.helpers import AB, AC, BC, Case, listed
from tests.reckoning import NAMES, all_partings, drawn_talks, fits, joined_at, joined_by, shows, states

TOLD = ("-", "a", "a b", "-; x: - / -", "a; x: - / -", "a b; x: - / -", "a b; x: a-b / -; y: - / -", "a b c", "a b c; x: - / -",
        "a b c; f: a-b / a-c; g: - / -", "a b c; a-b>b-c; x: - / a-b; y: a-c / -", "a b; x: - / -; y: - / -; z: - / -",
        "a b c; a-b>b-c; b-c>a-b; x: - / -; y: - / -", "a b c; f: a-b / a-c; g: a-c / a-b")
FOUR_TOLD = ("a b c d; a-b>c-d; x: a-b / -; y: - / a-c", "a b c d; x: a-b / -; y: - / c-d; z: a-c / -")


def plain_sights(talk):
    """All SIGHTs, ascending: all rows of states that fit the FLOODS and lie within one another."""
    rows = itertools.product(*[[state for state in states(talk) if shows(flood, joined_by(state))] for flood in talk.floods])
    return [row for row in rows if all(joined_by(one) <= joined_by(other) or joined_by(other) <= joined_by(one)
                                       for one, other in itertools.combinations(row, 2))]


@functools.cache
def known():
    """Some Talks that can be, each with its SIGHTs."""
    drawn = [*drawn_talks(61, NAMES[:3], 60, 2, 3), *drawn_talks(62, NAMES[:4], 12, 4, 2)]
    return [(talk, plain_sights(talk)) for talk in (*map(Talk.of, TOLD), *map(Talk.of, FOUR_TOLD), *drawn) if can_be(talk)]


def looks_of(talk):
    return [(name, pair) for name in talk.names for pair in talk.pairs]


def joined_in(talk, sight, look):
    return look[1] in joined_by(sight[talk.names.index(look[0])])


def open_by(talk, sights):
    return tuple(look for look in looks_of(talk) if len({joined_in(talk, sight, look) for sight in sights}) == 2)


def left_after(talk, sights, look, answer):
    return [sight for sight in sights if joined_in(talk, sight, look) is answer]


def plain_depth(talk, sights):
    """The least depth of a PLAN, by trying all LOOKs."""
    depths = [1 + max(plain_depth(talk, left_after(talk, sights, look, answer)) for answer in (True, False))
              for look in open_by(talk, sights)]
    return min(depths, default=0)


def all_plans(talk, sights):
    """All PLANs."""
    looks = open_by(talk, sights)
    if not looks:
        return [()]
    return [(look, one, other) for look in looks for one in all_plans(talk, left_after(talk, sights, look, True))
            for other in all_plans(talk, left_after(talk, sights, look, False))]


def plain_is_plan(talk, sights, thing):
    looks = open_by(talk, sights)
    if not looks:
        return repr(thing) == "()"
    if not (type(thing) is tuple and len(thing) == 3 and repr(thing[0]) in map(repr, looks)):
        return False
    return all(plain_is_plan(talk, left_after(talk, sights, thing[0], answer), part)
               for answer, part in ((True, thing[1]), (False, thing[2])))


class SightsTest(Case):

    def test_numbers(self):
        for talk, sights in known():
            self.assert_same(how_many_sights(talk), len(sights))
            self.assertEqual([sight_at(talk, number) for number in range(len(sights))], sights)
            self.assertEqual(sights, sorted(sights))
            for number in (-1, len(sights), -len(sights), 10 ** 40, -10 ** 40):
                self.assert_error(NoNumber(number), sight_at, talk, number)

    def test_all_rows(self):
        for talk, sights in known():
            rows = itertools.product(all_partings(talk.islands), repeat=len(talk.names))
            for row in itertools.islice(rows, 400):
                self.assertIs(is_sight(talk, row), row in sights)
                self.assertEqual(number_of_sight(talk, row), sights.index(row) if row in sights else None)
            for sight in sights:
                self.assertIs(is_sight(talk, sight), True)
                self.assertIs(is_sight(talk, (*sight, *sight[:1])), not sight)
                self.assertIs(is_sight(talk, sight[1:]), not sight)

    def test_sights_are_what_some_fit_shows(self):
        for talk, sights in known():
            if len(talk.islands) > 3:
                continue
            seen = set()
            for fords, levels in fits(talk):
                seen.add(tuple(joined_at(fords, levels[name]) for name in talk.names))
            self.assertEqual(seen, {tuple(map(joined_by, sight)) for sight in sights})

    def test_without_floods(self):
        for talk in (Talk(), Talk(("a",)), Talk(NAMES[:4])):
            self.assertEqual((how_many_sights(talk), sight_at(talk, 0), number_of_sight(talk, ()), is_sight(talk, ())), (1, (), 0, True))
            self.assertEqual((open_looks(talk), best_look(talk), plan(talk), fewest_looks(talk), is_plan(talk, ())),
                             ((), None, (), 0, True))


class OpenTest(Case):

    def test_open_looks(self):
        for talk, sights in known():
            self.assert_same(open_looks(talk), open_by(talk, sights))
            self.assertEqual(open_looks(talk), tuple(look for look in looks_of(talk) if shown(talk, *look) == "open"))

    def test_answered(self):
        for talk, sights in known():
            for look in looks_of(talk):
                for answer in (True, False):
                    if left_after(talk, sights, look, answer):
                        found = answered(talk, look, answer)
                        self.assertEqual(found, flood_told(talk, *look, answer))
                        self.assertEqual(plain_sights(found), left_after(talk, sights, look, answer))
                    else:
                        self.assert_error(NoLook(look), answered, talk, look, answer)
                        self.assert_error(NoLook(look), answered, talk, listed(look), answer)

    def test_left_by(self):
        for talk, sights in known():
            for look in looks_of(talk):
                left = [left_after(talk, sights, look, answer) for answer in (True, False)]
                self.assert_same(left_by(talk, look), tuple(len(open_by(talk, part)) if part else None for part in left))

    def test_best_look(self):
        many = 0
        for talk, _ in known():
            looks = open_looks(talk)
            best = min([(max(left_by(talk, look)), look) for look in looks], default=(0, None))[1]
            self.assert_same(best_look(talk), best)
            many += len(looks) > 2
        self.assertGreater(many, 20)

    def test_no_flood_ahead_of_no_look(self):
        talk = Talk.of("a b c; f: a-b / a-c; g: - / -")
        for look in (("h", AB), ("h", BC), ("a", AC)):
            for form in (look, listed(look)):
                self.assert_error(NoFlood(look[0]), left_by, talk, form)
                self.assert_error(NoFlood(look[0]), Looks(talk).told, form)
                for answer in (True, False):
                    self.assert_error(NoFlood(look[0]), answered, talk, form, answer)
                    self.assert_error(NoFlood(look[0]), Looks(talk).learn, form, answer)
        self.assert_error(NoLook(("f", BC)), answered, talk, ("f", BC), True)
        self.assert_error(NoLook(("f", AB)), answered, talk, look=["f", ["a", "b"]], joined=False)


class PlansTest(Case):

    def test_fewest_looks(self):
        depths = []
        for talk, sights in known():
            if len(open_by(talk, sights)) < 7:
                depths.append(plain_depth(talk, sights))
                self.assert_same(fewest_looks(talk), depths[-1])
                found = plan(talk)
                self.assertIs(is_plan(talk, found), True)
                self.assertTrue(plain_is_plan(talk, sights, found))
                self.assertEqual(depth_of(found), depths[-1])
                self.assertEqual(depth_of(listed(found)), depths[-1])
        self.assertGreater(len(set(depths)), 4)

    def test_all_plans(self):
        for talk, sights in known():
            if len(open_by(talk, sights)) > 3:
                continue
            plans = all_plans(talk, sights)
            self.assertEqual(min(map(depth_of, plans)), fewest_looks(talk))
            for one in plans[:400]:
                self.assertIs(is_plan(talk, one), True)
            others = [other for one in plans[:60] for other in self.bent_plans(one, looks_of(talk))]
            for other in others:
                self.assertIs(is_plan(talk, other), plain_is_plan(talk, sights, other))

    def bent_plans(self, one, looks):
        """The PLAN with another LOOK, both parts turned about, or a part left out or doubled, at some depth."""
        found = [(), (one,), (*one, ()), one[:2], one[::-1], list(one), None, True]
        if one:
            look, left, right = one
            found.extend([(look, right, left), (look, left, left), (look, right, right), (look, (), ()), left, right])
            found.extend((other, left, right) for other in looks)
            found.extend((look, part, right) for part in self.bent_plans(left, looks))
            found.extend((look, left, part) for part in self.bent_plans(right, looks))
        return found

    def test_depth(self):
        look = ("f", AB)
        for value, depth in (((), 0), ((look, (), ()), 1), ((look, (look, (), ()), ()), 2), ((look, (), (look, (), ())), 2),
                             ((look, (look, (), (look, (), ())), (look, (), ())), 3)):
            self.assertEqual((depth_of(value), depth_of(listed(value)), depth_of(plan=value)), (depth, depth, depth))


class PlainLooks:
    """What Looks must tell, by the SIGHTs that are left."""

    def __init__(self, talk):
        self.talk, self.log = talk, []

    def sights(self, many):
        found = plain_sights(self.talk)
        for look, answer in self.log[:many]:
            found = left_after(self.talk, found, look, answer)
        return found

    def now(self):
        return self.sights(len(self.log))


class LooksTest(Case):

    def check(self, looks, plain):
        """Both tell the same."""
        talk, sights = plain.talk, plain.now()
        self.assertEqual((looks.answers, len(looks)), (tuple(plain.log), len(plain.log)))
        self.assertEqual(looks.left(), open_by(talk, sights))
        self.assertEqual(plain_sights(looks.talk), sights)
        expected = talk
        for look, answer in plain.log:
            expected = flood_told(expected, *look, answer)
        self.assertEqual(looks.talk, expected)
        for look in looks_of(talk):
            seen = {joined_in(talk, sight, look) for sight in sights}
            self.assertIs(looks.told(look), seen.pop() if len(seen) == 1 else None)
            self.assertIs(look in looks, look in [known_look for known_look, _ in plain.log])
            self.assertIs(listed(look) in looks, look in looks)

    def test_drawn_logs(self):
        draw = random.Random(7)
        done = {"learned": 0, "refused": 0, "back": 0, "nothing": 0}
        for talk, _ in known():
            looks, plain = Looks(talk), PlainLooks(talk)
            self.check(looks, plain)
            for _ in range(6 if talk.names and talk.pairs else 1):
                if draw.random() < 0.25 or not looks_of(talk):
                    self.step_back(looks, plain, done)
                else:
                    self.step(looks, plain, draw.choice(looks_of(talk)), draw.choice((True, False)), done)
                self.check(looks, plain)
        self.assertGreater(min(done.values()), 5)

    def step_back(self, looks, plain, done):
        if plain.log:
            plain.log.pop()
            self.assertIsNone(looks.back())
            done["back"] += 1
        else:
            self.assert_error(NothingDone(), looks.back)
            done["nothing"] += 1

    def step(self, looks, plain, look, answer, done):
        twin, before = looks.twin(), open_by(plain.talk, plain.now())
        if not left_after(plain.talk, plain.now(), look, answer):
            self.assert_error(NoLook(look), looks.learn, look, answer)
            self.assertTrue(looks == twin)
            done["refused"] += 1
            return
        plain.log.append((look, answer))
        after = open_by(plain.talk, plain.now())
        self.assert_same(looks.learn(look, answer), tuple(
            other for other in before if other != look and other not in after))
        self.assertFalse(looks == twin)
        twin.learn(look=listed(look), joined=answer)
        self.assertTrue(looks == twin)
        done["learned"] += 1

    def test_the_same_look_again(self):
        looks = Looks(Talk.of("a b c; f: a-b / a-c; g: - / -"))
        look = ("g", AC)
        self.assertEqual((looks.learn(look, False), looks.learn(look, False)), ((("g", BC),), ()))
        self.assertEqual((len(looks), looks.answers), (2, ((look, False), (look, False))))
        self.assert_error(NoLook(look), looks.learn, look, True)
        looks.back()
        self.assertEqual((len(looks), look in looks, looks.told(look)), (1, True, False))
        looks.back()
        self.assertEqual((len(looks), look in looks, looks.told(look)), (0, False, None))
        self.assert_error(NothingDone(), looks.back)

    def test_equal(self):
        talk = Talk.of("a b c; g: - / -")
        one, other = Looks(talk), Looks(talk)
        self.assertTrue(one == other and one == Looks(Talk.of(talk.text)) and not one != other)
        one.learn(("g", AB), True)
        self.assertFalse(one == other)
        self.assertFalse(one == Looks(one.talk))
        other.learn(("g", AC), True)
        one.learn(("g", AC), True)
        other.learn(("g", AB), True)
        self.assertEqual(one.talk, other.talk)
        self.assertFalse(one == other)
        for foreign in (None, True, 0, "", (), [], talk, one.talk, one.answers, ("g", AB)):
            self.assertIs(one == foreign, False)
            self.assertIs(foreign == one, False)
        self.assertFalse(Looks(talk) == Looks(Talk.of("a b c; h: - / -")))

    def test_a_twin_shares_nothing(self):
        looks = Looks(Talk.of("a b c; g: - / -"))
        looks.learn(("g", AB), True)
        twin = looks.twin()
        self.assertTrue(twin == looks)
        twin.back()
        self.assertEqual((len(looks), len(twin)), (1, 0))
        looks.learn(("g", AC), False)
        self.assertEqual((len(looks), len(twin), twin.talk.text), (2, 0, "a b c; g: - / -"))
        twin.learn(("g", BC), True)
        self.assertEqual(looks.answers, ((("g", AB), True), (("g", AC), False)))

    def test_what_is_handed_over_stays_the_caller_s(self):
        looks = Looks(talk=Talk.of("a b c; g: - / -"))
        look = ["g", ["a", "b"]]
        looks.learn(look, True)
        look[1][0] = "x"
        look[0] = "y"
        self.assertEqual(looks.answers, ((("g", AB), True),))
        self.assertEqual(looks.talk.text, "a b c; g: a-b / -")

    def test_properties_have_no_setters(self):
        looks = Looks(Talk.of("a b; g: - / -"))
        for name in ("talk", "answers"):
            with self.assertRaises(AttributeError):
                setattr(looks, name, ())
        self.assertEqual((looks.talk.text, looks.answers), ("a b; g: - / -", ()))

    def test_is_look(self):
        for talk, _ in known():
            for name in (*talk.names, "zz"):
                for pair in (*talk.pairs, ("a", "zz"), ("b", "a")):
                    self.assertIs(is_look(talk, (name, pair)), name in talk.names and pair in talk.pairs)


if __name__ == "__main__":
    unittest.main()
