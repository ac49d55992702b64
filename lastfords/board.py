"""A Board: Talks by NAMEs, with frames that no deed breaks, and deeds that can be taken back."""

from lastfords.closures import says_no_less
from lastfords.deeds import behind_all, behind_deed, check_just_islands, talk_in
from lastfords.plain import ascending, frozen
from lastfords.sure import shown, stands


class Board:
    """Talks of the same ISLANDs by NAMEs. Each of them can be, and is within its frame."""

    def __init__(self, islands=()):
        self._islands = ascending(islands)
        self._scene = {}
        # The scenes ahead of the deeds that can be taken back, the first one first.
        self._past = []

    @property
    def islands(self):
        """The set of the ISLANDs."""
        return self._islands

    @property
    def names(self):
        """The set of the NAMEs of the Talks."""
        return ascending(list(self._scene))

    @property
    def frames(self):
        """The ascending tuple of the triples (name, low, high) of all frames, told by texts or None."""
        framed = [(name, self._scene[name][1]) for name in self.names if self._scene[name][1] is not None]
        return tuple([(name, text_or_none(frame[0]), text_or_none(frame[1])) for name, frame in framed])

    def __len__(self):
        return len(self._scene)

    def __contains__(self, name):
        return name in self._scene

    def __getitem__(self, name):
        # By numbers Python would go through from the last one on.
        if isinstance(name, int):
            raise TypeError("a Board is not to be gone through")
        return talk_in(self._scene, name)

    def __iter__(self):
        raise TypeError("a Board is not to be gone through")

    def __eq__(self, other):
        return (isinstance(other, Board) and self._islands == other._islands and self._scene == other._scene)

    def __setitem__(self, name, talk):
        self._do(("set", name, talk))

    def __iadd__(self, other):
        name, rule = other
        self._do(("add", name, rule))
        return self

    def _do(self, deed):
        """Does this; raises what the deed raises."""
        self._go_on(behind_deed(self._islands, self._scene, frozen(deed)))

    def _go_on(self, scene):
        """This is the scene, and the one until now is what can be taken back."""
        self._past.append(self._scene)
        self._scene = scene

    def leave(self, name):
        """The Talk goes, with its frame; raises NoTalk."""
        self._do(("leave", name))

    def tell(self, name, flood, pair, joined):
        """In the FLOOD the PAIR was joined, or parted; raises NoTalk, NoIsland, Stuck, Outside."""
        self._do(("tell", name, flood, pair, joined))

    def frame(self, name, low, high):
        """The Talk has this frame; raises NoTalk, OtherIslands, Outside."""
        self._do(("frame", name, low, high))

    def lift(self, name):
        """The frame goes; raises NoTalk, NoFrame."""
        self._do(("lift", name))

    def attempt(self, deeds):
        """Does all of the deeds, as one, or none; raises Stopped."""
        self._go_on(behind_all(self._islands, self._scene, frozen(deeds)))

    def undo(self):
        """Takes back the last deed; whether there was one."""
        if len(self._past) == 0:
            return False
        self._scene = self._past.pop()
        return True

    def twin(self):
        """Another Board in the same state, with the same deeds to take back."""
        other = board_of(self._islands, self._scene)
        other._past = [dict(scene) for scene in self._past]
        return other

    def stands(self, name, one, other):
        """What stands tells of both FLOODS of the Talk; raises NoTalk, NoFlood, Stuck."""
        return stands(self[name], one, other)

    def shown(self, name, flood, pair):
        """What shown tells of the FLOOD of the Talk and the PAIR; raises NoTalk, NoFlood, NoIsland, Stuck."""
        return shown(self[name], flood, pair)

    def above(self, name):
        """The set of the NAMEs of the other Talks that say no less than this one; raises NoTalk."""
        talk = self[name]
        return tuple([other for other in self.names if other != name and says_no_less(self[other], talk)])

    def doubled(self):
        """The set of the NAMEs of Talks that are equal to one with a lesser NAME."""
        return tuple([name for name in self.names
                      if any([other < name and self[other] == self[name] for other in self.names])])

    def effect(self, name, talk):
        """What the Talk of this NAME says beside talk, told by a word; raises NoTalk, OtherIslands."""
        own = self[name]
        check_just_islands(self._islands, talk)
        no_less, no_more = says_no_less(own, talk), says_no_less(talk, own)
        if no_less and no_more:
            return "alike"
        if no_less:
            return "more"
        if no_more:
            return "less"
        return "apart"


def board_of(islands, scene):
    """A Board of these ISLANDs with this scene and no deed to take back."""
    board = Board(islands)
    board._scene = dict(scene)
    return board


def text_or_none(talk):
    """The text of the Talk, None for None."""
    if talk is None:
        return None
    return talk.text
