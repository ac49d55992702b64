"""What follows from the RULEs of a Talk. Its FLOODS are not looked at."""

from lastfords.errors import OtherIslands
from lastfords.heights import is_fords_of, keeps_rules, last_waters
from lastfords.lots import (all_merged, all_partings, closed_marks, joins, lots_of, marks_alone, pairs_of,
                            rules_towards, settled)
from lastfords.plain import ascending, frozen
from lastfords.talks import Talk, check_islands, is_pair, pairs_names


def asked_pairs(talk, pairs):
    """The PAIRs with tuples for lists; raises NoIsland."""
    given = frozen(pairs)
    check_islands(talk.islands, pairs_names(given))
    return given


def asked_rule(talk, wants, gives):
    """The pair (wants, gives) with tuples for lists; raises NoIsland, for wants first."""
    rule = (frozen(wants), frozen(gives))
    check_islands(talk.islands, pairs_names((*rule[0], rule[1])))
    return rule


def check_same_islands(one, other):
    """Raises OtherIslands if the Talks have not the same ISLANDs."""
    if one.islands != other.islands:
        raise OtherIslands()


def rule_follows(talk, rules, rule):
    """Whether the RULE follows from these RULEs, over the ISLANDs of the Talk."""
    wants, gives = rule
    return joins(settled(rules, all_merged(marks_alone(talk.islands), wants)), gives)


def closure(talk, pairs):
    """The set of all PAIRs in the closure of these; raises NoIsland."""
    return pairs_of(closed_marks(talk, asked_pairs(talk, pairs)))


def closed_lots(talk, pairs):
    """The PARTING in which just the closure of the PAIRs is joined; raises NoIsland."""
    return lots_of(closed_marks(talk, asked_pairs(talk, pairs)))


def follows(talk, wants, gives):
    """Whether the RULE follows from the Talk; raises NoIsland."""
    return rule_follows(talk, talk.rules, asked_rule(talk, wants, gives))


def third_pair(one, other):
    """The PAIR of the ISLANDs that are in just one of both PAIRs; None if both have not just one in common."""
    ends = sorted(set(one) ^ set(other))
    if len(ends) != 2:
        return None
    return tuple(ends)


def further_steps(rules, joined):
    """Of each PAIR that one STEP joins behind these, a dict, such a STEP."""
    found = {}
    for rule in rules:
        if rule[1] not in joined and all([want in joined for want in rule[0]]):
            found[rule[1]] = ("told", rule)
    for one in joined:
        for other in joined:
            third = third_pair(one, other)
            if third is not None and third not in joined and third not in found:
                found[third] = ("round", one, other, third)
    return found


def steps_from(rules, wants):
    """Of each PAIR in the closure the STEP by which it is joined, None for wants, in an order that works."""
    made = {want: None for want in wants}
    found = further_steps(rules, made)
    while found:
        for pair in found:
            made[pair] = found[pair]
        found = further_steps(rules, made)
    return made


def used_pairs(step):
    """The PAIRs that must be joined ahead of the STEP."""
    if step[0] == "told":
        return step[1][0]
    return step[1:3]


def steps_to(talk, wants, gives):
    """STEPS from wants to gives, None if it does not follow; raises NoIsland."""
    given, aim = asked_rule(talk, wants, gives)
    made = steps_from(talk.rules, given)
    if aim not in made:
        return None
    needed = {aim: True}
    steps = []
    # From the last STEP on, so that all for which a STEP is needed are known when it is looked at.
    for pair in reversed(list(made)):
        if pair in needed and made[pair] is not None:
            steps.append(made[pair])
            for used in used_pairs(made[pair]):
                needed[used] = True
    return tuple(steps[::-1])


def is_told_step(rules, joined, thing):
    """Whether thing is a STEP by a RULE that can be made when these PAIRs, a dict, are joined."""
    return (isinstance(thing, tuple) and len(thing) == 2 and thing[0] == "told" and thing[1] in rules
            and all([want in joined for want in thing[1][0]]))


def is_round_step(joined, thing):
    """Whether thing is a STEP round three ISLANDs that can be made when these PAIRs, a dict, are joined."""
    return (isinstance(thing, tuple) and len(thing) == 4 and thing[0] == "round"
            and all([is_pair(pair) for pair in thing[1:]])
            and thing[1] in joined and thing[2] in joined and third_pair(thing[1], thing[2]) == thing[3])


def is_steps(talk, wants, gives, thing):
    """Whether thing is STEPS from wants to gives; raises NoIsland."""
    given, aim = asked_rule(talk, wants, gives)
    if not isinstance(thing, tuple):
        return False
    joined = {want: True for want in given}
    for step in thing:
        if is_told_step(talk.rules, joined, step):
            joined[step[1][1]] = True
        elif is_round_step(joined, step):
            joined[step[3]] = True
        else:
            return False
    return aim in joined


def fords_against(talk, wants, gives):
    """FORDS that keep all RULEs, but not this one; None if it follows; raises NoIsland."""
    given, aim = asked_rule(talk, wants, gives)
    marks = closed_marks(talk, given)
    if joins(marks, aim):
        return None
    return tuple([(pair, 2 if joins(marks, pair) else 1) for pair in talk.pairs])


def is_fords_against(talk, wants, gives, thing):
    """Whether thing is FORDS that keep all RULEs, but not this one; raises NoIsland."""
    given, aim = asked_rule(talk, wants, gives)
    if not is_fords_of(talk.pairs, thing, 0):
        return False
    lasts = last_waters(talk.islands, thing)
    return keeps_rules(lasts, talk.rules) and all([lasts[want] > lasts[aim] for want in given])


def least_wants(talk, wants, gives):
    """Those of wants that stay if from the first on each is left out that can be; None if gives does not follow."""
    given, aim = asked_rule(talk, wants, gives)
    if not rule_follows(talk, talk.rules, (given, aim)):
        return None
    kept = given
    for want in given:
        others = tuple([pair for pair in kept if pair != want])
        if rule_follows(talk, talk.rules, (others, aim)):
            kept = others
    return kept


def says_no_less(one, other):
    """Whether each RULE that follows from other follows from one; raises OtherIslands."""
    check_same_islands(one, other)
    return all([rule_follows(one, one.rules, rule) for rule in other.rules])


def alike_rules(one, other):
    """Whether the same RULEs follow from both Talks; raises OtherIslands."""
    return says_no_less(one, other) and says_no_less(other, one)


def parting_rule(one, other):
    """A RULE that follows from just one of both Talks, None if there is none; raises OtherIslands."""
    check_same_islands(one, other)
    found = [rule for rule in one.rules if not rule_follows(other, other.rules, rule)]
    found.extend([rule for rule in other.rules if not rule_follows(one, one.rules, rule)])
    if len(found) == 0:
        return None
    return found[0]


def without(rules, rule):
    """The RULEs but this one."""
    return tuple([other for other in rules if other != rule])


def idle_rules(talk):
    """The set of the RULEs each of which follows from all other ones."""
    return tuple([rule for rule in talk.rules if rule_follows(talk, without(talk.rules, rule), rule)])


def thinned(talk):
    """The Talk without the RULEs that are left out if from the first on each is that follows from the others."""
    kept = talk.rules
    for rule in talk.rules:
        others = without(kept, rule)
        if rule_follows(talk, others, rule):
            kept = others
    return Talk(talk.islands, kept, talk.floods)


def never_later(talk, one, other):
    """Whether the PAIR one is never parted later than other; raises NoIsland."""
    return follows(talk, (one,), other)


def mates(talk):
    """The set of all sets of two or more PAIRs that are always parted at the same water."""
    found = {}
    for pair in talk.pairs:
        # Two PAIRs are each in the closure of the other one exactly if both closures are the same.
        found.setdefault(lots_of(closed_marks(talk, (pair,))), []).append(pair)
    return ascending([tuple(pairs) for pairs in found.values() if len(pairs) > 1])


def closed_among(talk, islands, parting):
    """The PARTING of these ISLANDs that joins just the closure of what this PARTING of them joins."""
    marks = closed_marks(talk, [pair for lot in parting for pair in zip(lot, lot[1:])])
    return lots_of({island: marks[island] for island in islands})


def told_of(talk, islands):
    """A Talk of these ISLANDs from which just those RULEs among them follow that follow from talk; raises NoIsland."""
    names = ascending(islands)
    check_islands(talk.islands, islands)
    aims = {parting: closed_among(talk, names, parting) for parting in all_partings(names)}
    return Talk(names, rules_towards(aims))
