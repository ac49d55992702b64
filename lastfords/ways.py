"""Ways over fords, and ways of which no two go over the same ford."""

from lastfords.plain import ascending


def sides_of(way):
    """The PAIRs of the way, one behind another."""
    return [ascending(step) for step in zip(way, way[1:])]


def is_way(islands, pair, thing):
    """Whether thing is a way of the PAIR by these ISLANDs."""
    if not (isinstance(thing, tuple) and len(thing) > 1 and all([island in islands for island in thing])):
        return False
    return thing[0] == pair[0] and thing[-1] == pair[1] and len(set(thing)) == len(thing)


def cost_of(costs, way):
    """What the way costs, by what each PAIR costs."""
    return sum([costs[side] for side in sides_of(way)])


def longer(costs, found, island):
    """The pair (cost, way) of the way found, with this ISLAND behind."""
    cost, way = found
    return (cost + cost_of(costs, (way[-1], island)), (*way, island))


def cheapest_way(islands, costs, pair):
    """The pair (cost, way) of a cheapest way of the PAIR, by what each PAIR costs, from 0."""
    ahead = {island: longer(costs, (0, (pair[0],)), island) for island in islands if island != pair[0]}
    while True:
        cost, way = min(ahead.values())
        last = way[-1]
        if last == pair[1]:
            return (cost, way)
        ahead = {island: min(ahead[island], longer(costs, (cost, way), island)) for island in ahead if island != last}


def neighbours(islands, sides):
    """Of each ISLAND those to which one of these PAIRs leads, ascending, as a dict."""
    return {island: [other for other in islands if ascending((island, other)) in sides] for island in islands}


def reached(near, used, start):
    """Of each ISLAND that can be reached a way from the start, by steps that are not used, as a dict."""
    ways = {start: (start,)}
    ahead = [start]
    while ahead:
        further = []
        for island in ahead:
            for other in near[island]:
                if other not in ways and (island, other) not in used:
                    ways[other] = (*ways[island], other)
                    further.append(other)
        ahead = further
    return ways


def steps_apart(near, pair):
    """The steps, as a dict of True, of as many ways of the PAIR as can be of which no two use the same PAIR."""
    used = {}
    ways = reached(near, used, pair[0])
    while pair[1] in ways:
        way = ways[pair[1]]
        for one, other in zip(way, way[1:]):
            # A step and the one back are both left out: the two ways change over there.
            if (other, one) in used:
                del used[(other, one)]
            else:
                used[(one, other)] = True
        ways = reached(near, used, pair[0])
    return used


def ways_by(used, pair):
    """The set of ways of the PAIR that these steps make."""
    left = {}
    for one, other in used:
        left.setdefault(one, []).append(other)
    found = []
    for second in [other for one, other in used if one == pair[0]]:
        way = [pair[0], second]
        while way[-1] != pair[1]:
            island = left[way[-1]].pop()
            # Steps that lead round are left out of the way.
            if island in way:
                way = way[:way.index(island)]
            way.append(island)
        found.append(tuple(way))
    return ascending(found)
