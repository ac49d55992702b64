"""Helpers over plain values that several files need."""


def frozen(value):
    """The value with tuples for lists, at any depth."""
    if isinstance(value, (list, tuple)):
        return tuple([frozen(part) for part in value])
    return value


def ascending(values):
    """The set of the values: an ascending tuple without duplicates."""
    return tuple(sorted(set(values)))


def is_ascending(values):
    """Whether each of the values is less than the next one."""
    return all([one < other for one, other in zip(values, values[1:])])


def is_name(thing):
    """Whether thing is a NAME: a string of 1 to 8 letters a to z."""
    # A string that is ASCII, of letters alone, and lower-case has letters a to z alone.
    return (isinstance(thing, str) and 1 <= len(thing) <= 8
            and thing.isascii() and thing.isalpha() and thing.islower())


def is_number(thing, least):
    """Whether thing is a number, no bool, and at least this one."""
    return isinstance(thing, int) and not isinstance(thing, bool) and thing >= least


def least_lots(many, is_right):
    """The set of all sets of places, of so many, that are right and within which no other right one lies."""
    found = []
    # A number's bits tell places; all sets within a set have lesser numbers, so they come first.
    for bits in range(1 << many):
        if not any([bits & lot == lot for lot, _ in found]):
            places = tuple([place for place in range(many) if (bits >> place) & 1 == 1])
            if is_right(places):
                found.append((bits, places))
    return ascending([places for _, places in found])
