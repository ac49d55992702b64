"""PARTINGs, the states of a Talk, and families of PARTINGs."""

from lastfords.errors import NoNumber, NoState, OtherIslands
from lastfords.lots import (all_merged, all_partings, closed_marks, each_alone, first_broken, is_within, joins,
                            lots_of, marks_alone, marks_of, one_lot, pairs_of, rules_towards)
from lastfords.plain import ascending, frozen, is_ascending


def is_lot(thing):
    """Whether thing is an ascending tuple of at least one string."""
    return (isinstance(thing, tuple) and len(thing) > 0
            and all([isinstance(island, str) for island in thing]) and is_ascending(thing))


def is_parting(islands, thing):
    """Whether thing is a PARTING of the ISLANDs."""
    if not (isinstance(thing, tuple) and all([is_lot(lot) for lot in thing]) and is_ascending(thing)):
        return False
    return sorted([island for lot in thing for island in lot]) == sorted(islands)


def pairs_joined(parting):
    """The set of the PAIRs that the PARTING joins."""
    return pairs_of(marks_of(frozen(parting)))


def lots_from(islands, pairs):
    """The finest PARTING of the ISLANDs that joins all of the PAIRs."""
    return lots_of(all_merged(marks_alone(islands), pairs))


def marks_of_both(one, other):
    """The pair of the marks of both PARTINGs; raises OtherIslands."""
    first, second = marks_of(frozen(one)), marks_of(frozen(other))
    if sorted(first) != sorted(second):
        raise OtherIslands()
    return (first, second)


def is_finer(one, other):
    """Whether the PARTING one joins no PAIR that other does not join; raises OtherIslands."""
    first, second = marks_of_both(one, other)
    return is_within(first, second)


def both_join(one, other):
    """The PARTING that joins just the PAIRs that both join; raises OtherIslands."""
    first, second = marks_of_both(one, other)
    return lots_of({island: (first[island], second[island]) for island in first})


def either_joins(one, other):
    """The finest PARTING that joins all that one of both joins; raises OtherIslands."""
    first, second = marks_of_both(one, other)
    return lots_of(all_merged(first, pairs_of(second)))


def holds(talk, parting):
    """Whether all RULEs of the Talk hold in the PARTING."""
    return first_broken(talk.rules, marks_of(parting)) is None


def is_state(talk, thing):
    """Whether thing is a state of the Talk."""
    return is_parting(talk.islands, thing) and holds(talk, thing)


def checked_state(talk, state):
    """The state with tuples for lists; raises NoState if it is none."""
    given = frozen(state)
    if not is_state(talk, given):
        raise NoState()
    return given


def broken_by(talk, parting):
    """The least RULE of the Talk that does not hold in the PARTING, None if all hold."""
    return first_broken(talk.rules, marks_of(frozen(parting)))


def least_state(talk, parting):
    """The finest state that joins all that the PARTING joins."""
    return lots_of(closed_marks(talk, pairs_joined(parting)))


def join_states(talk, one, other):
    """The finest state that joins all that one of both states joins; raises NoState."""
    return least_state(talk, either_joins(checked_state(talk, one), checked_state(talk, other)))


def next_above(talk, state):
    """The ascending list of the states that join more, with no other one between; raises NoState."""
    marks = marks_of(checked_state(talk, state))
    joined = pairs_of(marks)
    larger = [lots_of(closed_marks(talk, (*joined, pair))) for pair in talk.pairs if not joins(marks, pair)]
    covers = []
    # A state has more lots than each one that joins more: so those that stand between come first.
    for other in sorted(ascending(larger), key=len, reverse=True):
        if not any([is_finer(cover, other) for cover in covers]):
            covers.append(other)
    return sorted(covers)


def next_below(talk, state):
    """The ascending list of the states that join less, with no other one between; raises NoState."""
    given = checked_state(talk, state)
    finer = [other for other in all_states(talk) if other != given and is_finer(other, given)]
    covers = []
    # A state has less lots than each one that is finer: so those that stand between come first.
    for other in sorted(finer, key=len):
        if not any([is_finer(other, cover) for cover in covers]):
            covers.append(other)
    return sorted(covers)


def all_states(talk):
    """The ascending list of all states."""
    return [parting for parting in all_partings(talk.islands) if holds(talk, parting)]


def how_many_states(talk):
    """How many states there are."""
    return len(all_states(talk))


def state_at(talk, number):
    """The state with this number; raises NoNumber."""
    states = all_states(talk)
    if not 0 <= number < len(states):
        raise NoNumber(number)
    return states[number]


def number_of_state(talk, parting):
    """The number of the state, None if the PARTING is none."""
    given = frozen(parting)
    states = all_states(talk)
    if given not in states:
        return None
    return states.index(given)


def shared_parting(islands, partings, parting):
    """The PARTING that joins what all of those join that join all that this one joins."""
    found = one_lot(islands)
    for other in partings:
        if is_finer(parting, other):
            found = both_join(found, other)
    return found


def family_aims(islands, partings):
    """Of each PARTING the finest one of the least family in which these are that joins all it joins, as a dict."""
    # That each ISLAND is alone is in each family, since no RULE asks for something without wants.
    known = [each_alone(islands), *partings]
    return {parting: shared_parting(islands, known, parting) for parting in all_partings(islands)}


def told_again(islands, partings):
    """The ascending list of the PARTINGs of the least family in which these are."""
    aims = family_aims(ascending(islands), frozen(partings))
    return sorted([parting for parting in aims if aims[parting] == parting])


def are_told(islands, partings):
    """Whether the PARTINGs are a family."""
    return told_again(islands, partings) == list(ascending(frozen(partings)))


def rules_for(islands, partings):
    """RULES that hold in just the PARTINGs of the least family in which these are."""
    return rules_towards(family_aims(ascending(islands), frozen(partings)))
