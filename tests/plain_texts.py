"""What the document says of texts, reckoned plainly: by patterns, and by whole lines."""

import re

from lastfords.talks import Talk
from tests.plain_board import no_less, stuck_lot

NAME = "[a-z]{1,8}"
PAIR = f"{NAME}-{NAME}"
PAIRS = f"(?:-|{PAIR}(?: {PAIR})*)"
FLOOD = re.compile(f"({NAME}): ({PAIRS}) / ({PAIRS})")
RULE = re.compile(f"({PAIRS})>({PAIR})")
ISLANDS = re.compile(f"islands((?: {NAME})*)")
SIGNS = " -;:>/*.,abz\n"


def climbs(values):
    return list(values) == sorted(set(values))


def plain_name(text):
    return text if re.fullmatch(NAME, text) else None


def plain_pair(text):
    """The PAIR with this text, None if there is none."""
    if not re.fullmatch(PAIR, text):
        return None
    one, other = text.split("-")
    return (one, other) if one < other else None


def plain_pairs(text):
    pairs = [] if text == "-" else [plain_pair(word) for word in text.split(" ")]
    return tuple(pairs) if None not in pairs and climbs(pairs) else None


def plain_rule(text):
    """The RULE with this text, None if there is none."""
    found = RULE.fullmatch(text)
    if not found:
        return None
    wants, gives = plain_pairs(found[1]), plain_pair(found[2])
    return (wants, gives) if wants and gives and gives not in wants else None


def plain_flood(text):
    found = FLOOD.fullmatch(text)
    if not found:
        return None
    joined, parted = plain_pairs(found[2]), plain_pairs(found[3])
    return None if joined is None or parted is None else (found[1], joined, parted)


def plain_talk(text):
    """The Talk with this text, None if there is none."""
    first, *parts = text.split("; ")
    islands = [] if first == "-" else first.split(" ")
    many = len([part for part in parts if ">" in part])
    rules, floods = [plain_rule(part) for part in parts[:many]], [plain_flood(part) for part in parts[many:]]
    if None in map(plain_name, islands) or None in rules or None in floods:
        return None
    pairs = [pair for wants, gives in rules for pair in (*wants, gives)] + [pair for _, joined, parted in floods for pair in joined + parted]
    if not (climbs(islands) and climbs(rules) and climbs([flood[0] for flood in floods])):
        return None
    if not {island for pair in pairs for island in pair} <= set(islands):
        return None
    return Talk(islands, rules, floods)


def plain_islands(line):
    found = ISLANDS.fullmatch(line)
    islands = found[1].split() if found else []
    return tuple(islands) if found and climbs(islands) else None


def plain_bound(text):
    """A pair of whether this is so written, and the Talk or None."""
    talk = plain_talk(text)
    return (text == "*" or talk is not None, talk)


def plain_frame(text):
    """The triple of the frame that is so written, None if there is none."""
    found = re.fullmatch(f"({NAME}) from (.*?) \\.\\. (.*)", text)
    if not found:
        return None
    (low_is_right, low), (high_is_right, high) = plain_bound(found[2]), plain_bound(found[3])
    return (found[1], low, high) if low_is_right and high_is_right else None


def plain_board(text):
    """The number of the first wrong line, or the pair of the Talks and the frames, as dicts."""
    lines = text.split("\n")
    islands = plain_islands(lines[0])
    if islands is None:
        return 0
    talks, frames = {}, {}
    for number, line in enumerate(lines[1:], 1):
        if line == "end":
            return number + 1 if number + 1 < len(lines) else (talks, frames)
        if not plain_line(islands, talks, frames, line):
            return number
    return len(lines)


def plain_line(islands, talks, frames, line):
    """Whether the line is right where it stands; then what it tells stands in talks or frames."""
    found = re.fullmatch(f"({NAME}): (.*)", line)
    if found:
        name, talk = found[1], plain_talk(found[2])
        if frames or name <= max(talks, default="") or talk is None or talk.islands != islands or stuck_lot(talk):
            return False
        talks[name] = talk
        return True
    frame = plain_frame(line)
    if frame is None or frame[0] not in talks or frame[0] <= max(frames, default=""):
        return False
    name, low, high = frame
    if any(bound is not None and bound.islands != islands for bound in (low, high)):
        return False
    if (low is not None and not no_less(talks[name], low)) or (high is not None and not no_less(high, talks[name])):
        return False
    frames[name] = (low, high)
    return True


def bent_texts(text):
    """All texts that differ from this one by one sign, left out, doubled, put in or changed over with the next."""
    found = {text[:place] + text[place + 1:] for place in range(len(text))}
    for place in range(len(text) + 1):
        for sign in SIGNS:
            found.add(text[:place] + sign + text[place:])
            if place < len(text):
                found.add(text[:place] + sign + text[place + 1:])
        found.add(text[:place] + text[place:place + 2][::-1] + text[place + 2:])
    return sorted(found - {text})
