"""The SIGHTs of a Talk, and which LOOKs they leave open."""

from lastfords.lots import is_within, joins, joins_all, joins_none, marks_of
from lastfords.partings import all_states


def nested(one, other):
    """Whether one of both, marks of the same ISLANDs, joins all that the other one joins."""
    return is_within(one, other) or is_within(other, one)


def fits_flood(flood, marks):
    """Whether the marks join what the FLOOD tells joined, and part what it tells parted."""
    return joins_all(marks, flood[1]) and joins_none(marks, flood[2])


def all_sights(talk):
    """The ascending list of all SIGHTs."""
    states = all_states(talk)
    marks = [marks_of(state) for state in states]
    near = [[nested(one, other) for other in marks] for one in marks]
    rows = [()]
    for flood in talk.floods:
        fitting = [number for number, one in enumerate(marks) if fits_flood(flood, one)]
        rows = [(*row, number) for row in rows for number in fitting if all([near[number][other] for other in row])]
    return [tuple([states[number] for number in row]) for row in rows]


class View:
    """The SIGHTs of a Talk. As bits of a number some of them are told: those that fit what was answered.

    Ups gives each LOOK the SIGHTs that join its PAIR in its FLOOD.
    """

    def __init__(self, talk):
        rows = [[marks_of(parting) for parting in sight] for sight in all_sights(talk)]
        self.every = (1 << len(rows)) - 1
        self.ups = {}
        for place, name in enumerate(talk.names):
            for pair in talk.pairs:
                joining = [1 << number for number, row in enumerate(rows) if joins(row[place], pair)]
                self.ups[(name, pair)] = sum(joining)
        self.known = {}

    def answered(self, bits, look, joined):
        """Those of these SIGHTs that answer the LOOK so."""
        up = bits & self.ups[look]
        if joined:
            return up
        return bits ^ up

    def unsure(self, bits):
        """The set of the LOOKs that some of these SIGHTs answer so, some otherwise."""
        return tuple([look for look in self.ups if 0 < bits & self.ups[look] < bits])

    def how_unsure(self, bits):
        """How many LOOKs are open by these SIGHTs, None if there are none of these."""
        if bits == 0:
            return None
        return len(self.unsure(bits))

    def both_unsure(self, bits, look):
        """The pair of how many LOOKs are open behind each answer, None for one that no SIGHT gives."""
        return (self.how_unsure(self.answered(bits, look, True)), self.how_unsure(self.answered(bits, look, False)))

    def best_plan(self, bits):
        """The pair of the least depth of a PLAN from these SIGHTs on, and the first such PLAN by comparison."""
        if bits not in self.known:
            plans = [self.plan_by(bits, look) for look in self.unsure(bits)]
            self.known[bits] = min(plans, default=(0, ()))
        return self.known[bits]

    def plan_by(self, bits, look):
        """The pair of the depth and a best PLAN that begins with this LOOK."""
        first, one = self.best_plan(self.answered(bits, look, True))
        second, other = self.best_plan(self.answered(bits, look, False))
        return (1 + max(first, second), (look, one, other))

    def is_plan_from(self, bits, thing):
        """Whether thing is a PLAN from these SIGHTs on."""
        if not isinstance(thing, tuple):
            return False
        looks = self.unsure(bits)
        if len(looks) == 0:
            return len(thing) == 0
        if not (len(thing) == 3 and thing[0] in looks):
            return False
        return (self.is_plan_from(self.answered(bits, thing[0], True), thing[1])
                and self.is_plan_from(self.answered(bits, thing[0], False), thing[2]))
