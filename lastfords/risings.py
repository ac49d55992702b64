"""Histories: what happens to the ISLANDs while the water rises."""

from math import gcd

from lastfords.errors import NoNumber, NoStart, NoState
from lastfords.heights import marks_at, turning_points
from lastfords.lots import each_alone, is_within, joins, joins_all, joins_none, lots_of, marks_of, one_lot, pairs_of
from lastfords.partings import all_states, is_finer, is_state, pairs_joined
from lastfords.plain import frozen


class Rise:
    """How the states of a Talk can stand behind one another.

    Needs are pairs (joined, parted) of PAIRs, each of which some member of a history must show. A spot is a
    pair: the number of a state, and as bits the needs that it or a member ahead of it shows. The spot ahead of
    all members has the number behind those of the states.
    """

    def __init__(self, talk, needs):
        self.states = all_states(talk)
        marks = [marks_of(state) for state in self.states]
        self.below = [numbers_below(marks, one) for one in marks]
        self.below.append([self.states.index(one_lot(talk.islands))])
        self.bits = [met_bits(needs, one) for one in marks]
        self.start = (len(self.states), 0)
        self.whole = (self.states.index(each_alone(talk.islands)), (1 << len(needs)) - 1)
        self.known = {}

    def later(self, spot):
        """The spots that may stand next, by the states alone, ascending by the states."""
        return [(number, spot[1] | self.bits[number]) for number in self.below[spot[0]]]

    def sizes(self, spot):
        """How many ways there are from the spot to a whole history, by the number of members behind the spot."""
        if spot not in self.known:
            self.known[spot] = self.counted_sizes(spot)
        return self.known[spot]

    def counted_sizes(self, spot):
        """What sizes tells, worked out."""
        if spot == self.whole:
            return {0: 1}
        found = {}
        for later in self.later(spot):
            for size, many in self.sizes(later).items():
                found[size + 1] = found.get(size + 1, 0) + many
        return found

    def many(self, spot):
        """How many ways there are from the spot to a whole history."""
        return sum(self.sizes(spot).values())


def numbers_below(marks, one):
    """The numbers of those of the marks by which less is joined than by one, and nothing else."""
    return [number for number, other in enumerate(marks) if other != one and is_within(other, one)]


def met_bits(needs, marks):
    """As bits, those of the needs that the marks show."""
    return sum([1 << place for place, need in enumerate(needs) if shows(need, marks)])


def shows(need, marks):
    """Whether all PAIRs are joined that the need has joined, and none that it has parted."""
    return joins_all(marks, need[0]) and joins_none(marks, need[1])


def flood_needs(talk):
    """What the FLOODS of the Talk need of a history."""
    return [(joined, parted) for _, joined, parted in talk.floods]


def risen(talk):
    """The Rise of the histories of the Talk."""
    return Rise(talk, flood_needs(talk))


def how_many_with(talk, needs):
    """How many histories of the Talk show these needs, too."""
    rise = Rise(talk, [*flood_needs(talk), *needs])
    return rise.many(rise.start)


def is_history(talk, thing):
    """Whether thing is a history of the Talk."""
    if not (isinstance(thing, tuple) and len(thing) > 0 and all([is_state(talk, state) for state in thing])):
        return False
    members = [marks_of(state) for state in thing]
    return (thing[0] == one_lot(talk.islands) and thing[-1] == each_alone(talk.islands)
            and all([one != other and is_finer(other, one) for one, other in zip(thing, thing[1:])])
            and all([any([shows(need, marks) for marks in members]) for need in flood_needs(talk)]))


def how_many_histories(talk):
    """How many histories there are."""
    return how_many_with(talk, [])


def history_at(talk, number):
    """The history with this number; raises NoNumber."""
    rise = risen(talk)
    if not 0 <= number < rise.many(rise.start):
        raise NoNumber(number)
    history = []
    spot = rise.start
    while spot != rise.whole:
        spot, number = spot_with(rise, spot, number)
        history.append(rise.states[spot[0]])
    return tuple(history)


def spot_with(rise, spot, number):
    """The next spot of the way with this number, of all ways from the spot, and the way's number from there on."""
    later = rise.later(spot)
    place = 0
    while number >= rise.many(later[place]):
        number = number - rise.many(later[place])
        place += 1
    return (later[place], number)


def number_of_history(talk, partings):
    """The number of the history, None if the PARTINGs are none."""
    history = frozen(partings)
    if not is_history(talk, history):
        return None
    rise = risen(talk)
    number = 0
    spot = rise.start
    for state in history:
        place = rise.states.index(state)
        number = number + sum([rise.many(later) for later in rise.later(spot) if later[0] < place])
        spot = (place, spot[1] | rise.bits[place])
    return number


def lengths(talk):
    """The ascending list of pairs: a size, and how many histories have so many members."""
    rise = risen(talk)
    return sorted(rise.sizes(rise.start).items())


def shortest(talk):
    """The least size of a history, None if there is none."""
    sizes = lengths(talk)
    if len(sizes) == 0:
        return None
    return sizes[0][0]


def longest(talk):
    """The greatest size of a history, None if there is none."""
    sizes = lengths(talk)
    if len(sizes) == 0:
        return None
    return sizes[-1][0]


def some_shortest(talk):
    """A history of the least size, None if there is none."""
    return some_of_size(talk, shortest(talk))


def some_longest(talk):
    """A history of the greatest size, None if there is none."""
    return some_of_size(talk, longest(talk))


def some_of_size(talk, size):
    """The first history with so many members; None for the size None."""
    if size is None:
        return None
    rise = risen(talk)
    history = []
    spot = rise.start
    for left in reversed(range(size)):
        fitting = [later for later in rise.later(spot) if left in rise.sizes(later)]
        spot = fitting[0]
        history.append(rise.states[spot[0]])
    return tuple(history)


def next_spots(rise, spot):
    """The spots that stand next in some history."""
    return [later for later in rise.later(spot) if rise.many(later) > 0]


def spot_behind(rise, begun):
    """The spot at the last one of these PARTINGs; raises NoStart."""
    spot = rise.start
    for place, parting in enumerate(begun):
        found = [later for later in next_spots(rise, spot) if rise.states[later[0]] == parting]
        if len(found) == 0:
            raise NoStart(place)
        spot = found[0]
    return spot


def next_states(talk, begun):
    """The ascending list of the states that stand next in some history that begins so; raises NoStart."""
    rise = risen(talk)
    spot = spot_behind(rise, frozen(begun))
    return [rise.states[later[0]] for later in next_spots(rise, spot)]


def histories_behind(talk, begun):
    """How many histories begin with these PARTINGs; raises NoStart."""
    rise = risen(talk)
    return rise.many(spot_behind(rise, frozen(begun)))


def state_need(talk, state):
    """What only this state shows."""
    joined = pairs_joined(state)
    return (joined, [pair for pair in talk.pairs if pair not in joined])


def histories_with(talk, states):
    """How many histories have all of these states; raises NoState."""
    given = frozen(states)
    if not all([is_state(talk, state) for state in given]):
        raise NoState()
    return how_many_with(talk, [state_need(talk, state) for state in given])


def share_with(talk, state):
    """Of all histories the FRACTION that has this state, None if there are none; raises NoState."""
    many = histories_with(talk, (state,))
    every = how_many_histories(talk)
    if every == 0:
        return None
    common = gcd(many, every)
    return (many // common, every // common)


def spread(rise, layer, kept):
    """The ways of the layer, by their last spots, with one more member, of those states that are kept."""
    found = {}
    for spot in layer:
        for later in rise.later(spot):
            if kept[later[0]]:
                found[later] = found.get(later, 0) + layer[spot]
    return found


def ended(rise, layer):
    """How many histories the ways of the layer, by their last spots, begin."""
    return sum([layer[spot] * rise.many(spot) for spot in layer])


def how_many_have(rise):
    """Of each state, by its number, how many histories have it."""
    every = [True for _ in rise.states]
    counts = [0 for _ in rise.states]
    layer = spread(rise, {rise.start: 1}, every)
    while layer:
        for spot in layer:
            counts[spot[0]] = counts[spot[0]] + layer[spot] * rise.many(spot)
        layer = spread(rise, layer, every)
    return counts


def possible_states(talk):
    """The ascending tuple of the states that are in some history."""
    rise = risen(talk)
    return tuple([state for state, many in zip(rise.states, how_many_have(rise)) if many > 0])


def sure_states(talk):
    """The ascending tuple of the states that are in all histories, None if there is no history."""
    rise = risen(talk)
    every = rise.many(rise.start)
    if every == 0:
        return None
    return tuple([state for state, many in zip(rise.states, how_many_have(rise)) if many == every])


def parted_at(talk, pair):
    """The ascending list of pairs: a place, and in how many histories its member is the first that parts the PAIR."""
    rise = risen(talk)
    joined = [joins(marks_of(state), pair) for state in rise.states]
    parted = [not one for one in joined]
    found = []
    place = 0
    # The ways of the layer have so many members as the place tells, and all of these join the PAIR.
    layer = {rise.start: 1}
    while layer:
        many = ended(rise, spread(rise, layer, parted))
        if many > 0:
            found.append((place, many))
        layer = spread(rise, layer, joined)
        place += 1
    return found


def parted_first(talk, one, other):
    """In how many histories one is parted ahead of other, by the same member, behind it."""
    first, second = frozen(one), frozen(other)
    ahead = how_many_with(talk, [((second,), (first,))])
    behind = how_many_with(talk, [((first,), (second,))])
    return (ahead, how_many_histories(talk) - ahead - behind, behind)


def fords_in(history):
    """The FORDS in which each PAIR has as height how many members join it."""
    members = [marks_of(parting) for parting in frozen(history)]
    return tuple([(pair, len([marks for marks in members if joins(marks, pair)])) for pair in pairs_of(members[0])])


def partings_by(islands, fords):
    """The PARTINGs that come while the water rises over these FORDS of the ISLANDs, none twice."""
    given = frozen(fords)
    found = []
    for water in turning_points(given):
        parting = lots_of(marks_at(islands, given, water))
        if parting not in found:
            found.append(parting)
    return tuple(found)
