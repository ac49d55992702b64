"""Prices: the least or cheapest tellings to be given up, and the least or cheapest from which all follows."""

from lastfords.closures import rule_follows
from lastfords.errors import NoItem
from lastfords.floods import can_be
from lastfords.plain import ascending, frozen, least_lots
from lastfords.talks import Talk


def items(talk):
    """The tuple of the ITEMS: the RULEs, then the FLOODS."""
    return talk.rules + talk.floods


def check_places(talk, places):
    """Raises NoItem for the first one of the places at which there is no ITEM."""
    for place in places:
        if not 0 <= place < len(talk):
            raise NoItem(place)


def at_places(things, places):
    """Those of the things that stand at these places."""
    return [thing for place, thing in enumerate(things) if place in places]


def other_places(talk, places):
    """The places of the ITEMS that are not among these."""
    return [place for place in range(len(talk)) if place not in places]


def with_items(talk, places):
    """The Talk of the same ISLANDs with the ITEMS at these places alone."""
    many = len(talk.rules)
    told = at_places(talk.floods, [place - many for place in places])
    return Talk(talk.islands, at_places(talk.rules, places), told)


def without_items(talk, places):
    """The Talk of the same ISLANDs with all other ITEMS; raises NoItem."""
    check_places(talk, places)
    return with_items(talk, other_places(talk, places))


def frees(talk, places):
    """Whether the Talk without the ITEMS at these places can be; raises NoItem."""
    return can_be(without_items(talk, places))


def stuck_items(talk):
    """The set of all least sets of places whose ITEMS alone can not be."""
    return least_lots(len(talk), lambda places: not can_be(with_items(talk, places)))


def least_frees(talk):
    """The set of all least sets of places without whose ITEMS the Talk can be."""
    return least_lots(len(talk), lambda places: frees(talk, places))


def price_of(prices, places):
    """The price of a set of places."""
    return sum([prices[place] for place in places])


def cheapest_of(prices, lots):
    """The pair (price, places) of a cheapest of these sets of places, the least of several; None if none is."""
    return min([(price_of(prices, places), places) for places in lots], default=None)


def cheapest_free(talk, prices):
    """The pair (price, places) of a cheapest one of least_frees, the least of several."""
    return cheapest_of(prices, least_frees(talk))


def how_many_cheapest(talk, prices):
    """How many of least_frees have the least price."""
    found = [price_of(prices, places) for places in least_frees(talk)]
    return found.count(min(found))


def kept_or_out(talk, prices, place):
    """The least price of those of least_frees without this place, and of the rest of those with it; raises NoItem."""
    check_places(talk, (place,))
    lots = least_frees(talk)
    kept = [price_of(prices, places) for places in lots if place not in places]
    out = [price_of(prices, places) - prices[place] for places in lots if place in places]
    return (min(kept, default=None), min(out, default=None))


def rule_lots(talk, wants, gives):
    """The set of all least sets of places of RULEs from which alone the RULE follows."""
    rule = (frozen(wants), frozen(gives))
    return least_lots(len(talk.rules), lambda places: rule_follows(talk, at_places(talk.rules, places), rule))


def cheapest_rules(talk, prices, wants, gives):
    """The pair (price, places) of a cheapest one of rule_lots, the least of several; None if there are none."""
    return cheapest_of(prices, rule_lots(talk, wants, gives))


def all_follow(talk, rules):
    """Whether all RULEs of the Talk follow from these."""
    return all([rule_follows(talk, rules, rule) for rule in talk.rules])


def least_bases(talk):
    """The set of all least sets of places of RULEs from which alone all RULEs follow."""
    return least_lots(len(talk.rules), lambda places: all_follow(talk, at_places(talk.rules, places)))


def cheapest_base(talk, prices):
    """The pair (price, places) of a cheapest one of least_bases, the least of several."""
    return cheapest_of(prices, least_bases(talk))
