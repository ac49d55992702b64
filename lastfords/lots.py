"""Lots of joined ISLANDs. Marks are a dict that gives each ISLAND a sign of its lot: the least ISLAND in it."""

from lastfords.plain import ascending


def marks_alone(islands):
    """The marks by which each ISLAND is alone."""
    return {island: island for island in islands}


def marks_of(parting):
    """The marks by which just the lots of the PARTING are joined."""
    return {island: lot[0] for lot in parting for island in lot}


def lots_of(marks):
    """The PARTING in which ISLANDs of one mark are one lot, whatever their marks are."""
    lots = {}
    for island in sorted(marks):
        lots.setdefault(marks[island], []).append(island)
    return ascending([tuple(lot) for lot in lots.values()])


def joins(marks, pair):
    """Whether both ISLANDs of the PAIR are in one lot."""
    return marks[pair[0]] == marks[pair[1]]


def joins_all(marks, pairs):
    """Whether each of the PAIRs is joined."""
    for one, other in pairs:
        if marks[one] != marks[other]:
            return False
    return True


def joins_none(marks, pairs):
    """Whether each of the PAIRs is parted."""
    for one, other in pairs:
        if marks[one] == marks[other]:
            return False
    return True


def pairs_of(marks):
    """The set of the PAIRs that are joined."""
    islands = sorted(marks)
    return tuple([(one, other) for one in islands for other in islands if one < other and marks[one] == marks[other]])


def is_within(one, other):
    """Whether other, marks of the same ISLANDs, joins all that one joins."""
    return all([other[one[island]] == other[island] for island in one])


def merged(marks, pair):
    """The marks by which the lots of both ISLANDs of the PAIR are one lot."""
    low, high = sorted([marks[pair[0]], marks[pair[1]]])
    return {island: low if marks[island] == high else marks[island] for island in marks}


def all_merged(marks, pairs):
    """The marks by which all of the PAIRs are joined, too."""
    for pair in pairs:
        if not joins(marks, pair):
            marks = merged(marks, pair)
    return marks


def first_broken(rules, marks):
    """The first one of the RULEs that does not hold, None if all hold."""
    for wants, gives in rules:
        if not joins(marks, gives) and joins_all(marks, wants):
            return (wants, gives)
    return None


def settled(rules, marks):
    """The marks by which no more is joined than all of the RULEs ask for."""
    changed = True
    while changed:
        changed = False
        for wants, gives in rules:
            if not joins(marks, gives) and joins_all(marks, wants):
                marks = merged(marks, gives)
                changed = True
    return marks


def closed_marks(talk, pairs):
    """The marks by which just the closure of the PAIRs is joined."""
    return settled(talk.rules, all_merged(marks_alone(talk.islands), pairs))


def one_lot(islands):
    """The PARTING in which all of the ISLANDs, a set, are in one lot."""
    return lots_of({island: True for island in islands})


def each_alone(islands):
    """The PARTING in which each of the ISLANDs, a set, is alone."""
    return lots_of(marks_alone(islands))


def grown(parting, island):
    """The PARTINGs of one more ISLAND, greater than all in this one."""
    found = [(*parting[:place], (*lot, island), *parting[place + 1:]) for place, lot in enumerate(parting)]
    return [*found, (*parting, (island,))]


def all_partings(islands):
    """The ascending list of all PARTINGs of the ISLANDs, a set."""
    found = [()]
    for island in islands:
        found = [larger for parting in found for larger in grown(parting, island)]
    return sorted(found)


def rule_towards(parting, aim):
    """A RULE that the PARTING breaks and that only joins what the PARTING aim joins."""
    wants = [pair for lot in parting for pair in zip(lot, lot[1:])]
    marks = marks_of(parting)
    gives = [pair for pair in pairs_of(marks_of(aim)) if not joins(marks, pair)]
    return (ascending(wants), gives[0])


def rules_towards(aims):
    """RULES that hold in just those PARTINGs to which aims, a dict of a closure of PARTINGs, gives themselves."""
    rules = []
    for parting in sorted(aims):
        if aims[parting] != parting and first_broken(rules, marks_of(parting)) is None:
            rules.append(rule_towards(parting, aims[parting]))
    return tuple(rules)
