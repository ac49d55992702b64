"""FORDS: what is joined at a water, and the waters at which PAIRs are parted."""

from lastfords.lots import all_merged, joins, marks_alone, merged
from lastfords.plain import ascending, is_number


def is_ford(pair, thing, least):
    """Whether thing is the pair of this PAIR and a height from least on."""
    return isinstance(thing, tuple) and len(thing) == 2 and thing[0] == pair and is_number(thing[1], least)


def is_fords_of(pairs, thing, least):
    """Whether thing is FORDS of these PAIRs, a set, with heights from least on."""
    return (isinstance(thing, tuple) and len(thing) == len(pairs)
            and all([is_ford(pair, ford, least) for pair, ford in zip(pairs, thing)]))


def turning_points(fords):
    """The set of the waters from 0 on at which something may be parted, 0 always among them."""
    return ascending([0, *[height for _, height in fords]])


def marks_at(islands, fords, water):
    """The marks by which just those ISLANDs are joined that are joined at this water."""
    return all_merged(marks_alone(islands), [pair for pair, height in fords if height > water])


def from_highest(fords):
    """The FORDS from the highest ford on."""
    return [(pair, height) for height, pair in sorted([(height, pair) for pair, height in fords], reverse=True)]


def last_waters(islands, fords):
    """Of each PAIR the least water at which it is parted, as a dict."""
    found = {}
    marks = marks_alone(islands)
    for pair, height in from_highest(fords):
        if not joins(marks, pair):
            marks = merged(marks, pair)
            # No higher ford joined these PAIRs: they are joined as long as this ford stands out.
            for other, _ in fords:
                if other not in found and joins(marks, other):
                    found[other] = height
    return found


def keeps_rule(lasts, rule):
    """Whether gives is never parted before wants are, by the waters of last_waters."""
    wants, gives = rule
    return min([lasts[pair] for pair in wants]) <= lasts[gives]


def keeps_rules(lasts, rules):
    """Whether all of the RULEs are kept, by the waters of last_waters."""
    return all([keeps_rule(lasts, rule) for rule in rules])
