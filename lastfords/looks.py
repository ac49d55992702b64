"""Looks: what should be looked at next, and logs of what was learned."""

from lastfords.errors import NoFlood, NoLook, NoNumber, NothingDone
from lastfords.lots import marks_of
from lastfords.partings import is_state
from lastfords.plain import frozen
from lastfords.sights import View, all_sights, fits_flood, nested
from lastfords.talks import flood_told


def is_look(talk, thing):
    """Whether thing is a LOOK of the Talk."""
    return isinstance(thing, tuple) and len(thing) == 2 and thing[0] in talk.names and thing[1] in talk.pairs


def is_sight(talk, thing):
    """Whether thing is a SIGHT of the Talk."""
    if not (isinstance(thing, tuple) and len(thing) == len(talk.floods)):
        return False
    if not all([is_state(talk, parting) for parting in thing]):
        return False
    row = [marks_of(parting) for parting in thing]
    return (all([nested(one, other) for one in row for other in row])
            and all([fits_flood(flood, marks) for flood, marks in zip(talk.floods, row)]))


def how_many_sights(talk):
    """How many SIGHTs there are."""
    return len(all_sights(talk))


def sight_at(talk, number):
    """The SIGHT with this number; raises NoNumber."""
    sights = all_sights(talk)
    if not 0 <= number < len(sights):
        raise NoNumber(number)
    return sights[number]


def number_of_sight(talk, thing):
    """The number of the SIGHT, None if thing is none."""
    if not is_sight(talk, thing):
        return None
    return all_sights(talk).index(thing)


def open_looks(talk):
    """The set of the open LOOKs."""
    view = View(talk)
    return view.unsure(view.every)


def asked_look(talk, look):
    """The LOOK with tuples for lists; raises NoFlood."""
    asked = frozen(look)
    if asked[0] not in talk.names:
        raise NoFlood(asked[0])
    return asked


def answered(talk, look, joined):
    """The Talk in which the FLOOD tells the answer, too; raises NoFlood, then NoLook."""
    asked = asked_look(talk, look)
    view = View(talk)
    if view.answered(view.every, asked, joined) == 0:
        raise NoLook(asked)
    return flood_told(talk, asked[0], asked[1], joined)


def left_by(talk, look):
    """How many LOOKs are open behind the answer True, and behind False, None for what none gives; raises NoFlood."""
    asked = asked_look(talk, look)
    view = View(talk)
    return view.both_unsure(view.every, asked)


def best_look(talk):
    """The open LOOK for which the greater number of left_by is the least, None if no LOOK is open."""
    view = View(talk)
    found = [(max(view.both_unsure(view.every, look)), look) for look in view.unsure(view.every)]
    if len(found) == 0:
        return None
    _, look = min(found)
    return look


def plan(talk):
    """A PLAN of the least depth."""
    view = View(talk)
    _, best = view.best_plan(view.every)
    return best


def fewest_looks(talk):
    """The least depth of all PLANs."""
    view = View(talk)
    depth, _ = view.best_plan(view.every)
    return depth


def depth_of(plan):
    """How many LOOKs may be needed by this PLAN."""
    if len(plan) == 0:
        return 0
    return 1 + max(depth_of(plan[1]), depth_of(plan[2]))


def is_plan(talk, thing):
    """Whether thing is a PLAN for the Talk."""
    view = View(talk)
    return view.is_plan_from(view.every, thing)


class Looks:
    """LOOKs at a Talk, and what was learned."""

    def __init__(self, talk):
        # The Talk that was handed over, and behind it the one with each answer. They never change.
        self._talks = [talk]
        self._answers = []

    @property
    def talk(self):
        """The Talk with all answers."""
        return self._talks[-1]

    @property
    def answers(self):
        """The tuple of the pairs of a LOOK and its answer, in the order in which they were learned."""
        return tuple(self._answers)

    def __len__(self):
        return len(self._answers)

    def __contains__(self, look):
        asked = frozen(look)
        return any([asked == known for known, _ in self._answers])

    def __eq__(self, other):
        return (isinstance(other, Looks) and self._talks[0] == other._talks[0]
                and self._answers == other._answers)

    def learn(self, look, joined):
        """Learns an answer; the set of all other LOOKs that are open no more; raises NoFlood, then NoLook."""
        asked = frozen(look)
        before = open_looks(self.talk)
        self._talks.append(answered(self.talk, asked, joined))
        self._answers.append((asked, joined))
        after = self.left()
        return tuple([other for other in before if other != asked and other not in after])

    def back(self):
        """The last answer was not learned; raises NothingDone."""
        if len(self._answers) == 0:
            raise NothingDone()
        self._talks.pop()
        self._answers.pop()

    def twin(self):
        """An equal one that shares nothing with this one."""
        other = Looks(self._talks[0])
        other._talks = list(self._talks)
        other._answers = list(self._answers)
        return other

    def told(self, look):
        """True if the PAIR is joined by all SIGHTs left, False if it is parted by all, else None; raises NoFlood."""
        asked = asked_look(self.talk, look)
        view = View(self.talk)
        if view.answered(view.every, asked, False) == 0:
            return True
        if view.answered(view.every, asked, True) == 0:
            return False
        return None

    def left(self):
        """The set of the open LOOKs of the Talk with all answers."""
        return open_looks(self.talk)
