"""What the document says, reckoned plainly: by trying all FORDS, PARTINGs, chains and orders of small Talks.

Nothing here uses the functions that are tested; PAIRs that are joined are told as a frozenset.
"""

import functools
import itertools
import random

from lastfords.talks import Talk

NAMES = ("a", "b", "c", "d", "e")


def pairs_of(islands):
    return tuple(itertools.combinations(islands, 2))


def subsets(things):
    """All subsets, ascending by size, each in the order of the things."""
    return [part for size in range(len(things) + 1) for part in itertools.combinations(things, size)]


@functools.cache
def joined_at(fords, water):
    """The PAIRs joined at this water: by going all ways of fords that are higher."""
    islands = sorted({island for pair, _ in fords for island in pair})
    ways = {island: {island} for island in islands}
    for _ in islands:
        for (one, other), height in fords:
            if height > water:
                ways[one] |= ways[other]
                ways[other] |= ways[one]
    return frozenset(pair for pair in pairs_of(islands) if pair[1] in ways[pair[0]])


@functools.cache
def all_fords(islands, heights):
    """All FORDS of the ISLANDs with these heights."""
    pairs = pairs_of(islands)
    return tuple(tuple(zip(pairs, row)) for row in itertools.product(heights, repeat=len(pairs)))


@functools.cache
def sights(fords):
    """Which PAIRs are joined at each water, from 0 to the greatest height."""
    top = max([height for _, height in fords], default=0)
    return tuple(joined_at(fords, water) for water in range(top + 1))


def keeps(fords, rule):
    """Whether the FORDS keep the RULE; wants may be ()."""
    return all(rule[1] in joined for joined in sights(fords) if joined.issuperset(rule[0]))


def keepers(talk, heights):
    """All FORDS with these heights that keep the RULEs of the Talk."""
    return [fords for fords in all_fords(talk.islands, heights) if all(keeps(fords, rule) for rule in talk.rules)]


def parted_water(fords, pair):
    """The least water at which the PAIR is parted."""
    return next(water for water in itertools.count() if pair not in joined_at(fords, water))


@functools.cache
def all_partings(islands):
    """All PARTINGs of the ISLANDs, ascending: by putting each one into each of as many lots as there are ISLANDs."""
    found = set()
    for row in itertools.product(range(len(islands)), repeat=len(islands)):
        lots = [tuple(island for island, lot in zip(islands, row) if lot == number) for number in set(row)]
        found.add(tuple(sorted(lots)))
    return tuple(sorted(found))


@functools.cache
def joined_by(parting):
    return frozenset(pair for lot in parting for pair in itertools.combinations(lot, 2))


def holds(rule, joined):
    return rule[1] in joined or not joined.issuperset(rule[0])


def states(talk):
    return [parting for parting in all_partings(talk.islands)
            if all(holds(rule, joined_by(parting)) for rule in talk.rules)]


def shows(flood, joined):
    return joined.issuperset(flood[1]) and joined.isdisjoint(flood[2])


def histories(talk):
    """All histories, ascending: all chains of states that the FLOODS allow."""
    islands = talk.islands
    top, bottom = (((islands,) if islands else ()), tuple((island,) for island in islands))
    known = states(talk)

    def chains(chain):
        if chain[-1] == bottom:
            return [chain]
        return [longer for state in known if joined_by(state) < joined_by(chain[-1]) for longer in chains((*chain, state))]

    return sorted(chain for chain in chains((top,))
                  if all(any(shows(flood, joined_by(state)) for state in chain) for flood in talk.floods))


def is_fit(talk, fords, levels):
    """Whether FORDS and WATERS, a dict, are a FIT."""
    return (all(height >= 1 for _, height in fords) and all(keeps(fords, rule) for rule in talk.rules)
            and all(shows(flood, joined_at(fords, levels[flood[0]])) for flood in talk.floods))


def fits(talk):
    """All FITs of small heights and waters: there are as many of these as can be needed."""
    many = len(talk.floods)
    for fords in all_fords(talk.islands, tuple(range(1, many + 2))):
        if all(keeps(fords, rule) for rule in talk.rules):
            standing = [[water for water in range(many + 2) if shows(flood, joined_at(fords, water))]
                        for flood in talk.floods]
            for row in itertools.product(*standing):
                yield fords, dict(zip(talk.names, row))


def closed(talk, pairs):
    """The closure of the PAIRs: what is joined in all states that join them."""
    known = [joined_by(state) for state in states(talk) if joined_by(state).issuperset(pairs)]
    return frozenset.intersection(*known)


def is_stuck(talk, names):
    floods = [flood for flood in talk.floods if flood[0] in names]
    joined = closed(talk, [pair for flood in floods for pair in flood[1]])
    return len(floods) > 0 and all(not joined.isdisjoint(flood[2]) for flood in floods)


def orders(talk):
    """All ORDERs, ascending, by the words of the guarantee."""
    def works(names):
        return all(joined.isdisjoint(talk[name][2]) for name, joined in zip(
            names, [closed(talk, [pair for later in names[place:] for pair in talk[later][1]])
                    for place in range(len(names))]))
    return [names for names in itertools.permutations(talk.names) if works(names)]


def all_rules(islands):
    """All RULEs of the ISLANDs, ascending."""
    pairs = pairs_of(islands)
    return sorted((wants, gives) for gives in pairs for wants in subsets([pair for pair in pairs if pair != gives])
                  if wants)


def small_talks(islands, most):
    """All Talks of the ISLANDs with at most so many RULEs."""
    rules = all_rules(islands)
    return [Talk(islands, part) for size in range(most + 1) for part in itertools.combinations(rules, size)]


def drawn_pairs(draw, pairs, most):
    return tuple(sorted(draw.sample(pairs, min(len(pairs), draw.randint(0, most)))))


def drawn_rule(draw, pairs):
    gives = draw.choice(pairs)
    others = [pair for pair in pairs if pair != gives]
    return (tuple(sorted(draw.sample(others, draw.randint(1, min(3, len(others)))))), gives)


def drawn_talks(seed, islands, many, rules, floods):
    """So many Talks of the ISLANDs, the same for the same numbers, with at most so many RULEs and FLOODS."""
    draw = random.Random(seed)
    pairs = pairs_of(islands)
    made = []
    for _ in range(many):
        told = [(name, drawn_pairs(draw, pairs, 2), drawn_pairs(draw, pairs, 2))
                for name in ("p", "q", "r", "s", "t")[:draw.randint(0, floods)]]
        made.append(Talk(islands, [drawn_rule(draw, pairs) for _ in range(draw.randint(0, rules))], told))
    return made
