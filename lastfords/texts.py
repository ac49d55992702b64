"""Texts of PAIRs, RULEs and Boards."""

from lastfords.board import board_of
from lastfords.deeds import behind_deed
from lastfords.errors import BadLine, BadText, NoTalk, OtherIslands, Outside, Stuck
from lastfords.plain import is_ascending, is_name
from lastfords.talks import Talk, read_pair, read_rule


def pair_in(text):
    """The PAIR with this text; raises BadText."""
    return read_pair(text)


def rule_in(text):
    """The RULE with this text; raises BadText."""
    return read_rule(text)


def name_in(text):
    """The NAME that is this text; raises BadText."""
    if not is_name(text):
        raise BadText()
    return text


def bound_in(text):
    """The Talk with this text, None for *; raises BadText."""
    if text == "*":
        return None
    return Talk.of(text)


def frame_in(text):
    """The triple (name, low, high) of the frame that is so written; raises BadText."""
    # A NAME has no blank, and a Talk's text no dot: so the first of these signs are those that part.
    name, _, bounds = text.partition(" from ")
    low, _, high = bounds.partition(" .. ")
    return (name_in(name), bound_in(low), bound_in(high))


def islands_in_line(line):
    """The ISLANDs that the first line of a text tells, ascending; raises BadText."""
    word, *islands = line.split(" ")
    if not (word == "islands" and all([is_name(island) for island in islands]) and is_ascending(islands)):
        raise BadText()
    return tuple(islands)


def islands_line(islands):
    """The first line of a text that tells these ISLANDs, a set."""
    return " ".join(["islands", *islands])


def bound_text(text):
    """What a frame's line has for this text of a Talk, or for None."""
    if text is None:
        return "*"
    return text


def board_text(board):
    """The text of the Board."""
    lines = [islands_line(board.islands)]
    lines.extend([f"{name}: {board[name].text}" for name in board.names])
    lines.extend([f"{name} from {bound_text(low)} .. {bound_text(high)}" for name, low, high in board.frames])
    lines.append("end")
    return "\n".join(lines)


def deed_in(line):
    """The deed that a line of a Board's text tells; raises BadText."""
    # A frame's line has a blank behind the NAME, and no sign ahead of it.
    name, _, told = line.partition(": ")
    if is_name(name):
        return ("set", name, Talk.of(told))
    framed = frame_in(line)
    return ("frame", *framed)


def place_of(deed):
    """By what lines ascend: Talks ahead of frames, each by their NAMEs."""
    return (deed[0] == "frame", deed[1])


def scene_in(islands, lines):
    """The scene that the lines ahead of the last one tell, and those behind the first one; raises BadLine."""
    scene = {}
    last = (False, "")
    for number, line in enumerate(lines, start=1):
        try:
            deed = deed_in(line)
            scene = behind_deed(islands, scene, deed)
        except (BadText, NoTalk, OtherIslands, Stuck, Outside):
            raise BadLine(number) from None
        if place_of(deed) <= last:
            raise BadLine(number)
        last = place_of(deed)
    return scene


def board_in(text):
    """The Board with this text, with no deed to take back; raises BadLine."""
    first, *others = text.split("\n")
    try:
        islands = islands_in_line(first)
    except BadText:
        raise BadLine(0) from None
    if "end" not in others:
        scene_in(islands, others)
        raise BadLine(1 + len(others))
    place = others.index("end")
    scene = scene_in(islands, others[:place])
    if place + 1 < len(others):
        raise BadLine(place + 2)
    return board_of(islands, scene)
