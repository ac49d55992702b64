"""Islands in a row: ROWs of runs of fords, each run told by how many and how high they are."""

from lastfords.errors import NoNumber
from lastfords.plain import ascending


def islands_in(row):
    """How many islands there are."""
    return 1 + sum([many for many, _ in row])


def check_numbers(row, islands):
    """Raises NoNumber for the first island that the ROW has not."""
    for island in islands:
        if not 0 <= island < islands_in(row):
            raise NoNumber(island)


def runs(row):
    """The list of the triples of each run: its first island, its last one, and the height of its fords."""
    found = []
    first = 0
    for many, height in row:
        found.append((first, first + many, height))
        first = first + many
    return found


def last_height(row, one, other):
    """The least height of the fords between both islands, None for the same island; raises NoNumber."""
    check_numbers(row, (one, other))
    if one == other:
        return None
    low, high = min(one, other), max(one, other)
    return min([height for first, last, height in runs(row) if first < high and low < last])


def lots_at(row, water):
    """Into how many lots of joined islands the ROW is parted."""
    return 1 + sum([many for many, height in row if height <= water])


def lot_at(row, island, water):
    """The pair of the first and the last island of this one's lot; raises NoNumber."""
    check_numbers(row, (island,))
    sunk = [(first, last) for first, last, height in runs(row) if height <= water]
    # Of a run that is sunk the last ford ahead of the island parts it, and the first ford behind it.
    firsts = [min(island, last) for first, last in sunk if first < island]
    lasts = [max(island, first) for first, last in sunk if island < last]
    return (max([0, *firsts]), min([islands_in(row) - 1, *lasts]))


def great_lots(row, water):
    """The sizes of the lots of several islands, and at least one size of 1."""
    sizes = [1]
    for many, height in row:
        if height > water:
            sizes[-1] = sizes[-1] + many
        else:
            sizes.append(1)
    return sizes


def greatest_lot(row, water):
    """How many islands the greatest lot has."""
    return max(great_lots(row, water))


def how_many_joined(row, water):
    """How many pairs of two unlike islands are joined."""
    return sum([size * (size - 1) // 2 for size in great_lots(row, water)])


def waters_of(row):
    """The set of all heights."""
    return ascending([height for _, height in row])


def keeps(row, first, second):
    """Whether second is joined at each water at which first is; raises NoNumber."""
    return last_height(row, first[0], first[1]) <= last_height(row, second[0], second[1])


def least_water(row, lots):
    """The least water at which there are at least so many lots, None if there is none."""
    waters = ascending([0, *[height for _, height in row]])
    return min([water for water in waters if lots_at(row, water) >= lots], default=None)
