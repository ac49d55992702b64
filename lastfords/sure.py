"""What is sure: what holds in all FITs of a Talk. It is, exactly if the Talk with its opposite told can not be."""

from lastfords.errors import NoFlood, OtherTalk
from lastfords.floods import can_be, check_can_be, fit_by, waters
from lastfords.plain import ascending
from lastfords.talks import check_islands, flood_told, with_flood, with_rule, without_flood


def check_flood(talk, name):
    """Raises NoFlood if no FLOOD has this NAME."""
    if name not in talk.names:
        raise NoFlood(name)


def with_other_flood(talk, flood):
    """The Talk with this FLOOD in the place of the one that has its NAME."""
    return with_flood(without_flood(talk, flood[0]), flood)


def is_above(talk, one, other):
    """Whether, in a Talk that can be, the FLOOD of the NAME one is surely higher than that of other."""
    name, joined, parted = talk[one]
    # Were it no higher, all that the other one tells joined would be joined in it, too.
    return not can_be(with_other_flood(talk, (name, ascending((*joined, *talk[other][1])), parted)))


def stands(talk, one, other):
    """Whether the FLOOD one is surely "higher" or "lower" than other, or "open"; raises NoFlood, then Stuck."""
    check_flood(talk, one)
    check_flood(talk, other)
    check_can_be(talk)
    if is_above(talk, one, other):
        return "higher"
    if is_above(talk, other, one):
        return "lower"
    return "open"


def sure_higher(talk):
    """The set of the pairs of NAMEs of which the first one is surely higher than the second; raises Stuck."""
    check_can_be(talk)
    return tuple([(one, other) for one in talk.names for other in talk.names if is_above(talk, one, other)])


def is_sure(talk, name, pair, joined):
    """Whether, in a Talk that can be, the PAIR is surely joined in the FLOOD, or surely parted."""
    return not can_be(flood_told(talk, name, pair, not joined))


def shown(talk, name, pair):
    """Whether the PAIR is surely "joined" or "parted" in the FLOOD, or "open"; raises NoFlood, NoIsland, Stuck."""
    check_flood(talk, name)
    check_islands(talk.islands, pair)
    check_can_be(talk)
    if is_sure(talk, name, pair, True):
        return "joined"
    if is_sure(talk, name, pair, False):
        return "parted"
    return "open"


def sure_pairs(talk, name, joined):
    """The set of the PAIRs that are surely joined, or surely parted, in the FLOOD; raises NoFlood, then Stuck."""
    check_flood(talk, name)
    check_can_be(talk)
    return tuple([pair for pair in talk.pairs if is_sure(talk, name, pair, joined)])


def sure_joined(talk, name):
    """The set of the PAIRs that are surely joined in the FLOOD; raises NoFlood, then Stuck."""
    return sure_pairs(talk, name, True)


def sure_parted(talk, name):
    """The set of the PAIRs that are surely parted in the FLOOD; raises NoFlood, then Stuck."""
    return sure_pairs(talk, name, False)


def with_moment(talk, joined, parted):
    """The Talk with a FLOOD at whose water these are joined and those parted; raises NoIsland."""
    # No FLOOD is called so, since a NAME has letters.
    return with_flood(talk, ("", joined, parted))


def may_be_seen(talk, joined, parted):
    """Whether in some FIT at some water these are joined and those parted; raises NoIsland."""
    return can_be(with_moment(talk, joined, parted))


def seen_fit(talk, joined, parted):
    """A pair of a FIT and a water at which these are joined and those parted, None if none is; raises NoIsland."""
    seen = with_moment(talk, joined, parted)
    if not can_be(seen):
        return None
    # FLOODS that can have the same lowest water can have it one behind another, in any order.
    fords, levels = fit_by(seen, [name for names in waters(seen) for name in names])
    # The moment is the first one, since its name is less than each NAME.
    return ((fords, levels[1:]), levels[0][1])


def rule_holds(talk, wants, gives):
    """Whether the RULE holds at all waters in all FITs; raises NoIsland."""
    return not may_be_seen(talk, wants, (gives,))


def surely_seen(talk, joined, parted):
    """Whether in each FIT there is a water at which these are joined and those parted; raises NoIsland."""
    given = with_moment(talk, joined, parted)[""]
    for one in given[1]:
        for other in given[2]:
            # There is none exactly if one of those is parted no earlier than one of these, as this RULE tells.
            if can_be(with_rule(talk, ((one,), other))):
                return False
    return True


def idle_floods(talk):
    """The set of the NAMEs of the FLOODS each of which, alone, bars nothing."""
    return tuple([name for name, joined, parted in talk.floods
                  if surely_seen(without_flood(talk, name), joined, parted)])


def tellings(flood):
    """The list of the triples of what the FLOOD tells, joined ahead of parted."""
    name, joined, parted = flood
    return [*[(name, "joined", pair) for pair in joined], *[(name, "parted", pair) for pair in parted]]


def without_telling(talk, telling):
    """The Talk in whose FLOOD this is not told."""
    name, word, pair = telling
    _, joined, parted = talk[name]
    if word == "joined":
        joined = tuple([other for other in joined if other != pair])
    else:
        parted = tuple([other for other in parted if other != pair])
    return with_other_flood(talk, (name, joined, parted))


def is_told_sure(talk, telling):
    """Whether, in a Talk that can be, what is told is sure."""
    name, word, pair = telling
    return is_sure(talk, name, pair, word == "joined")


def all_tellings(talk):
    """The list of all that the FLOODS tell, FLOOD by FLOOD."""
    return [telling for flood in talk.floods for telling in tellings(flood)]


def idle_tellings(talk):
    """The list of what the FLOODS tell that is, alone, sure without being told there; raises Stuck."""
    check_can_be(talk)
    return [telling for telling in all_tellings(talk) if is_told_sure(without_telling(talk, telling), telling)]


def as_much(one, other):
    """Whether each FIT of one is a FIT of other; raises OtherTalk."""
    if one.islands != other.islands or one.names != other.names:
        raise OtherTalk()
    # A Talk that can not be stays so whatever it tells, too: then all of this is sure.
    return (all([rule_holds(one, wants, gives) for wants, gives in other.rules])
            and all([is_told_sure(one, telling) for telling in all_tellings(other)]))


def same_fits(one, other):
    """Whether both Talks have the same FITs; raises OtherTalk."""
    return as_much(one, other) and as_much(other, one)
