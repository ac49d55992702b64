"""How many FORDS part each PAIR at a told water, counted by the lots that are joined at each height."""

from lastfords.heights import marks_at, turning_points
from lastfords.lots import lots_of


def power(base, many):
    """The product of so many factors, each one the base."""
    result = 1
    for _ in range(many):
        result = result * base
    return result


def chosen(sizes, bits):
    """Those of the sizes whose places the bits tell."""
    return [size for place, size in enumerate(sizes) if (bits >> place) & 1 == 1]


def pairs_across(sizes):
    """How many PAIRs there are of ISLANDs in two of the lots of these sizes."""
    return (sum(sizes) * sum(sizes) - sum([size * size for size in sizes])) // 2


def how_many_join(sizes, height):
    """In how many ways the PAIRs across lots of these sizes have heights to this one that join all lots at it.

    A lot of these sizes is joined by fords of just this height, by other lots too.
    """
    every = (1 << len(sizes)) - 1
    known = {}
    # Bit 0 is in each number: the first lot stands for all with which it is joined.
    for bits in range(1, every + 1, 2):
        many = power(height + 1, pairs_across(chosen(sizes, bits)))
        for less in known:
            if less & bits == less:
                many = many - known[less] * how_many_apart(chosen(sizes, less), chosen(sizes, bits ^ less), height)
        known[bits] = many
    return known[every]


def how_many_apart(joined, others, height):
    """In how many ways the PAIRs of other lots have heights to this one, and those between have lower ones."""
    return power(height + 1, pairs_across(others)) * power(height, sum(joined) * sum(others))


def how_many_levelled(islands, lasts):
    """How many FORDS there are in which each PAIR is parted at the water that is its height here."""
    many = 1
    for height in turning_points(lasts):
        inner = marks_at(islands, lasts, height)
        for lot in lots_of(marks_at(islands, lasts, height - 1)):
            parts = {}
            for island in lot:
                parts[inner[island]] = parts.get(inner[island], 0) + 1
            many = many * how_many_join(list(parts.values()), height)
    return many
