"""What the document says of a Board, reckoned plainly: whole copies of all Talks behind each deed."""

import copy

from lastfords.talks import Talk
from tests import reckoning
from tests.reckoning import drawn_pairs, drawn_rule, pairs_of, states, subsets


class Refused(Exception):
    """A deed is refused by an error of this name, which keeps this."""

    def __init__(self, raised, value=None):
        self.raised, self.value = raised, value


def stuck_lot(talk):
    """The greatest of all stuck lots, () if there is none."""
    return max([names for names in subsets(talk.names) if reckoning.is_stuck(talk, names)], key=len, default=())


def no_less(one, other):
    """Whether one says no less than other: each of its states is one of the other one."""
    return set(states(one)) <= set(states(other))


class PlainBoard:
    """Of each NAME the RULEs, the FLOODS and the frame."""

    def __init__(self, islands):
        self.islands = tuple(sorted(set(islands)))
        self.told, self.past = {}, []

    def talk(self, name):
        rules, floods, _ = self.told[name]
        return Talk(self.islands, sorted(rules), [(flood, tuple(sorted(joined)), tuple(sorted(parted)))
                                                  for flood, (joined, parted) in floods.items()])

    def frames(self):
        return tuple((name, *[bound if bound is None else bound.text for bound in self.told[name][2]])
                     for name in sorted(self.told) if self.told[name][2] is not None)

    def above(self, name):
        return tuple(other for other in sorted(self.told) if other != name and no_less(self.talk(other), self.talk(name)))

    def doubled(self):
        return tuple(name for name in sorted(self.told)
                     if any(other < name and self.talk(other) == self.talk(name) for other in self.told))

    def effect(self, name, talk):
        more, less = no_less(self.talk(name), talk), no_less(talk, self.talk(name))
        return {(True, True): "alike", (True, False): "more", (False, True): "less", (False, False): "apart"}[more, less]

    def do(self, deed):
        """Does it, or raises Refused and changes nothing."""
        before = copy.deepcopy(self.told)
        try:
            self.change(*deed)
        except Refused:
            self.told = before
            raise
        self.past.append(before)

    def attempt(self, deeds):
        """Does all as one; the triple of Stopped if one is refused."""
        before, past = copy.deepcopy(self.told), list(self.past)
        for number, deed in enumerate(deeds):
            try:
                self.do(deed)
            except Refused as refused:
                self.told, self.past = before, past
                return (number, refused.raised, refused.value)
        self.past = [*past, before]
        return None

    def undo(self):
        if not self.past:
            return False
        self.told = self.past.pop()
        return True

    def change(self, word, name, *given):
        if word != "set" and name not in self.told:
            raise Refused("NoTalk", name)
        getattr(self, word + "_now")(name, *given)
        if name in self.told and word in ("set", "add", "tell"):
            lot = stuck_lot(self.talk(name))
            if lot:
                raise Refused("Stuck", lot)
        if name in self.told:
            self.check_within(name)

    def check_islands(self, pairs):
        for pair in pairs:
            for island in pair:
                if island not in self.islands:
                    raise Refused("NoIsland", island)

    def check_within(self, name):
        low, high = self.told[name][2] or (None, None)
        if not ((low is None or no_less(self.talk(name), low)) and (high is None or no_less(high, self.talk(name)))):
            raise Refused("Outside", name)

    def set_now(self, name, talk):
        if talk.islands != self.islands:
            raise Refused("OtherIslands")
        frame = self.told[name][2] if name in self.told else None
        self.told[name] = [set(talk.rules), {flood: (set(joined), set(parted)) for flood, joined, parted in talk.floods}, frame]

    def leave_now(self, name):
        del self.told[name]

    def add_now(self, name, rule):
        self.check_islands((*rule[0], rule[1]))
        self.told[name][0].add(rule)

    def tell_now(self, name, flood, pair, joined):
        self.check_islands((pair,))
        self.told[name][1].setdefault(flood, (set(), set()))[0 if joined else 1].add(pair)

    def frame_now(self, name, low, high):
        for bound in (low, high):
            if bound is not None and bound.islands != self.islands:
                raise Refused("OtherIslands")
        self.told[name][2] = (low, high)

    def lift_now(self, name):
        if self.told[name][2] is None:
            raise Refused("NoFrame", name)
        self.told[name][2] = None


def drawn_talk(draw, islands):
    """A small Talk, mostly of these ISLANDs."""
    if draw.random() < 0.08:
        islands = draw.choice((islands[1:], (*islands, "zz"), ()))
    pairs = pairs_of(islands)
    if len(pairs) < 2:
        return Talk(islands)
    floods = [(flood, drawn_pairs(draw, pairs, 1), drawn_pairs(draw, pairs, 1)) for flood in ("f", "g")[:draw.randint(0, 2)]]
    return Talk(islands, [drawn_rule(draw, pairs) for _ in range(draw.randint(0, 2))], floods)


def drawn_bound(draw, islands):
    return None if draw.random() < 0.4 else drawn_talk(draw, islands)


def drawn_deed(draw, islands):
    """A deed, some of which will be refused."""
    name = draw.choice(("p", "q", "r"))
    pairs = pairs_of(islands if draw.random() < 0.8 else (*islands, "zz"))
    word = draw.choice(("set", "set", "set", "add", "add", "tell", "tell", "tell", "frame", "frame", "leave", "lift"))
    if word == "set":
        return (word, name, drawn_talk(draw, islands))
    if word == "add":
        return (word, name, drawn_rule(draw, pairs))
    if word == "tell":
        return (word, name, draw.choice(("f", "g", "h")), draw.choice(pairs), draw.random() < 0.5)
    if word == "frame":
        return (word, name, drawn_bound(draw, islands), drawn_bound(draw, islands))
    return (word, name)


def drawn_deeds(draw, islands):
    return tuple(drawn_deed(draw, islands) for _ in range(draw.randint(0, 3)))
