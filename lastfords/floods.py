"""FLOODS: whether they can have been, in which orders, at which waters."""

from lastfords.errors import NoNumber, NoOrder, Stuck
from lastfords.heights import is_fords_of, keeps_rules, last_waters
from lastfords.lots import closed_marks, joins, joins_none
from lastfords.plain import frozen, is_number, least_lots


def marks_at_lowest(talk, floods):
    """The marks of what is surely joined at the water of the lowest one of these FLOODS."""
    return closed_marks(talk, [pair for flood in floods for pair in flood[1]])


def lowest_of(talk, floods):
    """The list of those of these FLOODS that can be the lowest one of them."""
    marks = marks_at_lowest(talk, floods)
    return [flood for flood in floods if joins_none(marks, flood[2])]


def names_of(floods):
    """The NAMEs of the FLOODS."""
    return tuple([flood[0] for flood in floods])


def without_floods(floods, gone):
    """The list of the FLOODS that are not among those that are gone."""
    return [flood for flood in floods if flood not in gone]


def layers(talk):
    """The list of the FLOODS at each water, from the lowest one on, and the list of those that get stuck."""
    found = []
    left = list(talk.floods)
    low = lowest_of(talk, left)
    while low:
        found.append(low)
        left = without_floods(left, low)
        low = lowest_of(talk, left)
    return (found, left)


def can_be(talk):
    """Whether the Talk has a FIT."""
    return len(stuck_lot(talk)) == 0


def stuck_lot(talk):
    """The set of the NAMEs of the greatest stuck lot, () if there is none."""
    _, left = layers(talk)
    return names_of(left)


def check_can_be(talk):
    """Raises Stuck if the Talk can not be."""
    lot = stuck_lot(talk)
    if len(lot) > 0:
        raise Stuck(lot)


def is_stuck(talk, names):
    """Whether the FLOODS of these NAMEs are a stuck lot; raises NoFlood."""
    floods = [talk[name] for name in names]
    return len(floods) > 0 and len(lowest_of(talk, floods)) == 0


def least_stuck_lots(talk):
    """The ascending list of the stuck lots within which no other one lies."""
    names = talk.names
    lots = least_lots(len(names), lambda places: is_stuck(talk, [names[place] for place in places]))
    return sorted([tuple([names[place] for place in places]) for places in lots])


def waters(talk):
    """The list of the sets of NAMEs of the FLOODS at each of as few waters as can be; raises Stuck."""
    check_can_be(talk)
    found, _ = layers(talk)
    return [names_of(low) for low in found]


def fewest_waters(talk):
    """At how few unlike waters the FLOODS can have been; raises Stuck."""
    return len(waters(talk))


def lowest_floods(talk):
    """The set of the NAMEs that stand first in some ORDER; raises Stuck."""
    check_can_be(talk)
    return names_of(lowest_of(talk, talk.floods))


def highest_floods(talk):
    """The set of the NAMEs that stand last in some ORDER; raises Stuck."""
    check_can_be(talk)
    return names_of([flood for flood in talk.floods if can_be_last(talk, flood)])


def can_be_last(talk, last):
    """Whether, of a Talk that can be, all other FLOODS can be lower than this one."""
    left = list(talk.floods)
    low = without_floods(lowest_of(talk, left), [last])
    while low:
        left = without_floods(left, low)
        low = without_floods(lowest_of(talk, left), [last])
    return left == [last]


def is_order(talk, thing):
    """Whether thing is an ORDER of the Talk."""
    if not (isinstance(thing, tuple) and all([isinstance(name, str) for name in thing])):
        return False
    if sorted(thing) != list(talk.names):
        return False
    floods = [talk[name] for name in thing]
    return all([floods[place] in lowest_of(talk, floods[place:]) for place in range(len(floods))])


class Orders:
    """How many ORDERs there are of the FLOODS that are left, by their NAMEs."""

    def __init__(self, talk):
        self.origin = talk
        self.known = {(): 1}

    def firsts(self, left):
        """The NAMEs that can stand first of those that are left, ascending as these do."""
        return names_of(lowest_of(self.origin, [self.origin[name] for name in left]))

    def many(self, left):
        """How many ORDERs there are of the FLOODS that are left."""
        if left not in self.known:
            self.known[left] = sum([self.many(without_name(left, name)) for name in self.firsts(left)])
        return self.known[left]


def without_name(names, gone):
    """The NAMEs but this one."""
    return tuple([name for name in names if name != gone])


def how_many_orders(talk):
    """How many ORDERs there are."""
    return Orders(talk).many(talk.names)


def nth_order(talk, number):
    """The ORDER with this number; raises NoNumber."""
    orders = Orders(talk)
    left = talk.names
    if not 0 <= number < orders.many(left):
        raise NoNumber(number)
    order = []
    while left:
        name, number = first_with(orders, left, number)
        order.append(name)
        left = without_name(left, name)
    return tuple(order)


def first_with(orders, left, number):
    """The first NAME of the ORDER with this number, of those of the FLOODS left, and the number of what is behind."""
    firsts = orders.firsts(left)
    counts = [orders.many(without_name(left, name)) for name in firsts]
    place = 0
    while number >= counts[place]:
        number = number - counts[place]
        place += 1
    return (firsts[place], number)


def order_number(talk, order):
    """The number of the ORDER, None if it is none."""
    given = frozen(order)
    if not is_order(talk, given):
        return None
    orders = Orders(talk)
    left = talk.names
    number = 0
    for name in given:
        lesser = [first for first in orders.firsts(left) if first < name]
        number = number + sum([orders.many(without_name(left, first)) for first in lesser])
        left = without_name(left, name)
    return number


def fit_by(talk, order):
    """A FIT in which the FLOODS stand in this ORDER, each at a water of its own; raises NoOrder."""
    given = frozen(order)
    if not is_order(talk, given):
        raise NoOrder()
    floods = [talk[name] for name in given]
    steps = [marks_at_lowest(talk, floods[place:]) for place in range(len(floods))]
    # A later one joins no more than an earlier one, so each PAIR stands out of the water up to the last that joins it.
    fords = [(pair, 1 + len([marks for marks in steps if joins(marks, pair)])) for pair in talk.pairs]
    return (tuple(fords), tuple(sorted([(name, 1 + place) for place, name in enumerate(given)])))


def is_level(name, thing):
    """Whether thing is the pair of this NAME and a number from 0."""
    return isinstance(thing, tuple) and len(thing) == 2 and thing[0] == name and is_number(thing[1], 0)


def are_levels(names, thing):
    """Whether thing is WATERS of the FLOODS of these NAMEs, a set."""
    return (isinstance(thing, tuple) and len(thing) == len(names)
            and all([is_level(name, level) for name, level in zip(names, thing)]))


def can_stand(flood, water, lasts):
    """Whether the FLOOD can have had this water, by the waters at which the PAIRs are parted."""
    return all([lasts[pair] > water for pair in flood[1]]) and all([lasts[pair] <= water for pair in flood[2]])


def is_fit(talk, thing):
    """Whether thing is a FIT of the Talk."""
    if not (isinstance(thing, tuple) and len(thing) == 2):
        return False
    fords, levels = thing
    if not (is_fords_of(talk.pairs, fords, 1) and are_levels(talk.names, levels)):
        return False
    lasts = last_waters(talk.islands, fords)
    return (keeps_rules(lasts, talk.rules)
            and all([can_stand(flood, level[1], lasts) for flood, level in zip(talk.floods, levels)]))
