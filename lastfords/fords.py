"""FORDS of told heights: widest ways, maps that look alike, what they keep, the least to be raised or sunk."""

from lastfords.errors import OtherIslands
from lastfords.heights import from_highest, is_fords_of, keeps_rule, last_waters, marks_at
from lastfords.levels import how_many_levelled
from lastfords.lots import joins, lots_of, marks_alone, merged
from lastfords.plain import ascending, frozen, is_ascending, is_number
from lastfords.talks import check_islands, is_pair, is_pairs, pairs_between, pairs_names
from lastfords.ways import cheapest_way, cost_of, is_way, neighbours, reached, sides_of, steps_apart, ways_by


def has_pair(ford):
    """Whether this is a pair of a PAIR and something else."""
    return isinstance(ford, tuple) and len(ford) == 2 and is_pair(ford[0])


def is_fords(thing):
    """Whether thing is FORDS."""
    if not (isinstance(thing, tuple) and all([has_pair(ford) for ford in thing])):
        return False
    islands = islands_of(thing)
    # So a long thing is told wrong by its length, without all PAIRs of its ISLANDs.
    return 2 * len(thing) == len(islands) * (len(islands) - 1) and is_fords_of(pairs_between(islands), thing, 0)


def islands_of(fords):
    """The set of the ISLANDs of the FORDS."""
    return ascending(pairs_names([pair for pair, _ in fords]))


def heights_of(fords):
    """Of each PAIR the height of its ford, as a dict."""
    return {tuple(pair): height for pair, height in fords}


def lasts_by(fords):
    """Of each PAIR the least water at which it is parted, as a dict."""
    return last_waters(islands_of(fords), frozen(fords))


def asked_pair(fords, pair):
    """The PAIR as a tuple; raises NoIsland."""
    check_islands(islands_of(fords), pair)
    return tuple(pair)


def asked_rule(fords, wants, gives):
    """The RULE with tuples for lists; raises NoIsland, for wants first."""
    check_islands(islands_of(fords), pairs_names((*wants, gives)))
    return (frozen(wants), frozen(gives))


def height_of(fords, pair):
    """The height of the ford of this PAIR; raises NoIsland."""
    return heights_of(fords)[asked_pair(fords, pair)]


def with_height(fords, pair, height):
    """The FORDS with this height for the PAIR; raises NoIsland."""
    asked = asked_pair(fords, pair)
    return tuple([(other, height if other == asked else told) for other, told in frozen(fords)])


def parting_water(fords, pair):
    """The least water at which the PAIR is parted; raises NoIsland."""
    asked = asked_pair(fords, pair)
    return lasts_by(fords)[asked]


def widest_way(fords, pair):
    """A way of the PAIR with no ford below its parting water; raises NoIsland."""
    last = parting_water(fords, pair)
    heights = heights_of(fords)
    costs = {side: 0 if heights[side] >= last else 1 for side in heights}
    _, way = cheapest_way(islands_of(fords), costs, pair)
    return way


def is_widest_way(fords, pair, thing):
    """Whether thing is a way of the PAIR with no ford below its parting water; raises NoIsland."""
    last = parting_water(fords, pair)
    heights = heights_of(fords)
    return is_way(islands_of(fords), pair, thing) and all([heights[side] >= last for side in sides_of(thing)])


def parting_at(fords, water):
    """The PARTING of the ISLANDs at this water."""
    return lots_of(marks_at(islands_of(fords), frozen(fords), water))


def turning_waters(fords):
    """The set of the waters from 1 on at which a PAIR is parted that was joined until then."""
    return ascending([last for last in lasts_by(fords).values() if last > 0])


def lasts_of(fords):
    """The FORDS in which each PAIR has as height the water at which it is parted."""
    lasts = lasts_by(fords)
    return tuple([(pair, lasts[pair]) for pair, _ in frozen(fords)])


def is_lasts(thing):
    """Whether thing is FORDS that are their own lasts_of."""
    return is_fords(thing) and lasts_of(thing) == thing


def is_idle(fords, pair, last):
    """Whether the PAIR, parted at the water last, is so without its ford, too."""
    others = [ford for ford in fords if ford[0] != pair]
    return last == 0 or joins(marks_at(islands_of(fords), others, last - 1), pair)


def idle_pairs(fords):
    """The set of the PAIRs each of whose heights alone could be 0, and all would be parted as they are."""
    given = frozen(fords)
    lasts = lasts_by(given)
    # If the PAIR itself stays joined as long, so do all others: its ford is not missed on any way.
    return tuple([pair for pair, _ in given if is_idle(given, pair, lasts[pair])])


def bare_fords(fords):
    """FORDS with as few heights above 0 as can be, all told ones, that part each PAIR at the same water."""
    given = frozen(fords)
    marks = marks_alone(islands_of(given))
    kept = {pair: 0 for pair, _ in given}
    for pair, height in from_highest(given):
        if not joins(marks, pair):
            marks = merged(marks, pair)
            kept[pair] = height
    return tuple([(pair, kept[pair]) for pair, _ in given])


def how_many_above(fords):
    """How many heights are above 0."""
    return len([pair for pair, height in fords if height > 0])


def is_bare(fords, thing):
    """Whether thing is such FORDS as bare_fords tells."""
    given = frozen(fords)
    heights = heights_of(given)
    if not is_fords_of([pair for pair, _ in given], thing, 0):
        return False
    return (all([height in (0, heights[pair]) for pair, height in thing])
            and how_many_above(thing) == how_many_above(bare_fords(given)) and lasts_by(thing) == lasts_by(given))


def how_many_fords(fords):
    """How many FORDS there are of which these are the lasts_of."""
    return how_many_levelled(islands_of(fords), frozen(fords))


def lasts_of_both(one, other):
    """The pair of lasts_by of both; raises OtherIslands."""
    if islands_of(one) != islands_of(other):
        raise OtherIslands()
    return (lasts_by(one), lasts_by(other))


def same_lasts(one, other):
    """Whether at each water the same PAIRs are joined in both; raises OtherIslands."""
    first, second = lasts_of_both(one, other)
    return first == second


def never_earlier(one, other):
    """Whether at each water all PAIRs that are joined in other are joined in one; raises OtherIslands."""
    return earlier_at(one, other) is None


def earlier_at(one, other):
    """A pair of a PAIR and a water at which it is parted in one alone, None if there is none; raises OtherIslands."""
    first, second = lasts_of_both(one, other)
    found = [(pair, first[pair]) for pair in sorted(first) if first[pair] < second[pair]]
    if len(found) == 0:
        return None
    return found[0]


def is_earlier_at(one, other, thing):
    """Whether thing is a pair of a PAIR and a water at which it is parted in one alone; raises OtherIslands."""
    first, second = lasts_of_both(one, other)
    if not (has_pair(thing) and thing[0] in first and is_number(thing[1], 0)):
        return False
    return first[thing[0]] <= thing[1] < second[thing[0]]


def fords_keep(fords, wants, gives):
    """Whether gives is joined at each water at which all of wants are; raises NoIsland."""
    rule = asked_rule(fords, wants, gives)
    return keeps_rule(lasts_by(fords), rule)


def broken_at(fords, wants, gives):
    """The least water at which all of wants are joined and gives is not, None if there is none; raises NoIsland."""
    rule = asked_rule(fords, wants, gives)
    lasts = lasts_by(fords)
    if keeps_rule(lasts, rule):
        return None
    return lasts[rule[1]]


def waters_by(lasts, flood):
    """The pair of the least and the greatest water that the FLOOD can have; None as flood_waters tells."""
    low = max([0, *[lasts[pair] for pair in flood[2]]])
    if len(flood[1]) == 0:
        return (low, None)
    high = min([lasts[pair] for pair in flood[1]]) - 1
    if high < low:
        return None
    return (low, high)


def flood_waters(fords, flood):
    """The pair of the least and the greatest water (None if there is none) that the FLOOD can have; raises NoIsland.

    None if it can have none.
    """
    _, joined, parted = frozen(flood)
    check_islands(islands_of(fords), pairs_names(joined + parted))
    return waters_by(lasts_by(fords), frozen(flood))


def misfit(talk, fords):
    """The least RULE, or else the NAME of the first FLOOD, that the FORDS do not fit, or None; raises OtherIslands."""
    if tuple([pair for pair, _ in frozen(fords)]) != talk.pairs:
        raise OtherIslands()
    lasts = lasts_by(fords)
    found = [rule for rule in talk.rules if not keeps_rule(lasts, rule)]
    found.extend([flood[0] for flood in talk.floods if waters_by(lasts, flood) is None])
    if len(found) == 0:
        return None
    return found[0]


def fits_talk(talk, fords):
    """Whether the FORDS keep all RULEs and each FLOOD can have a water; raises OtherIslands."""
    return misfit(talk, fords) is None


def raises_to(fords, water):
    """Of each PAIR by how much its ford must be raised to stand out of this water, as a dict."""
    return {tuple(pair): max(0, water + 1 - height) for pair, height in fords}


def cheapest_raise(fords, pair, water):
    """The pair of the least sum of raises by which the PAIR is joined at this water, and a way; raises NoIsland."""
    asked = asked_pair(fords, pair)
    return cheapest_way(islands_of(fords), raises_to(fords, water), asked)


def least_raise(fords, pair, water):
    """The least sum of raises such that the PAIR is joined at this water; raises NoIsland."""
    cost, _ = cheapest_raise(fords, pair, water)
    return cost


def raised_way(fords, pair, water):
    """A way of the PAIR that raises of this least sum lift out of the water; raises NoIsland."""
    _, way = cheapest_raise(fords, pair, water)
    return way


def is_raised_way(fords, pair, water, thing):
    """Whether thing is a way of the PAIR that raises of the least sum lift out of the water; raises NoIsland."""
    least = least_raise(fords, pair, water)
    return is_way(islands_of(fords), pair, thing) and cost_of(raises_to(fords, water), thing) == least


def high_sides(fords, water):
    """The list of the PAIRs whose fords are higher than the water."""
    return [pair for pair, height in frozen(fords) if height > water]


def high_neighbours(fords, water):
    """Of each ISLAND those to which a ford leads that is higher than the water, as a dict."""
    return neighbours(islands_of(fords), high_sides(fords, water))


def fewest_sunk(fords, pair, water):
    """The least number of PAIRs that must be sunk such that this PAIR is parted at this water; raises NoIsland."""
    return len(sunk_pairs(fords, pair, water))


def sunk_pairs(fords, pair, water):
    """A set of so many PAIRs that, sunk, part this PAIR at this water; raises NoIsland."""
    asked = asked_pair(fords, pair)
    near = high_neighbours(fords, water)
    # With as many ways apart as can be, each one has just one step that leads out of what can still be reached.
    ways = reached(near, steps_apart(near, asked), asked[0])
    return tuple([side for side in high_sides(fords, water) if (side[0] in ways) != (side[1] in ways)])


def is_sunk_pairs(fords, pair, water, thing):
    """Whether thing is a set of as few PAIRs that, sunk, part this PAIR at this water; raises NoIsland."""
    fewest = fewest_sunk(fords, pair, water)
    if not (is_pairs(thing) and len(thing) == fewest):
        return False
    left = [ford for ford in frozen(fords) if ford[0] not in thing]
    return not joins(marks_at(islands_of(fords), left, water), pair)


def ways_apart(fords, pair, water):
    """A set of as many ways of the PAIR over fords above the water as can be, no PAIR in two; raises NoIsland."""
    asked = asked_pair(fords, pair)
    return ways_by(steps_apart(high_neighbours(fords, water), asked), asked)


def are_ways_apart(fords, pair, water, thing):
    """Whether thing is such a set of ways as ways_apart tells; raises NoIsland."""
    fewest = fewest_sunk(fords, pair, water)
    islands = islands_of(fords)
    if not (isinstance(thing, tuple) and len(thing) == fewest and all([is_way(islands, pair, way) for way in thing])):
        return False
    sides = [side for way in thing for side in sides_of(way)]
    high = high_sides(fords, water)
    return is_ascending(thing) and len(set(sides)) == len(sides) and all([side in high for side in sides])
