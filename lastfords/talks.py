"""What is told: PAIRs, RULEs, FLOODS, and Talks of them."""

from lastfords.errors import BadText, NoFlood, NoIsland, NoRule, Twice
from lastfords.plain import ascending, frozen, is_ascending, is_name


def is_pair(thing):
    """Whether thing is a PAIR."""
    return (isinstance(thing, tuple) and len(thing) == 2
            and is_name(thing[0]) and is_name(thing[1]) and thing[0] < thing[1])


def is_pairs(thing):
    """Whether thing is a set of PAIRs."""
    return isinstance(thing, tuple) and all([is_pair(part) for part in thing]) and is_ascending(thing)


def is_rule(thing):
    """Whether thing is a RULE."""
    return (isinstance(thing, tuple) and len(thing) == 2
            and is_pairs(thing[0]) and len(thing[0]) > 0
            and is_pair(thing[1]) and thing[1] not in thing[0])


def is_flood(thing):
    """Whether thing is a FLOOD."""
    return (isinstance(thing, tuple) and len(thing) == 3
            and is_name(thing[0]) and is_pairs(thing[1]) and is_pairs(thing[2]))


def pair_text(pair):
    """The text of a PAIR."""
    return f"{pair[0]}-{pair[1]}"


def pairs_text(pairs):
    """The text of a set of PAIRs."""
    return words_text([pair_text(pair) for pair in pairs])


def rule_text(rule):
    """The text of a RULE."""
    return f"{pairs_text(rule[0])}>{pair_text(rule[1])}"


def flood_text(flood):
    """The text of a FLOOD."""
    return f"{flood[0]}: {pairs_text(flood[1])} / {pairs_text(flood[2])}"


def words_text(words):
    """The words with blanks between, - if there are none."""
    if len(words) == 0:
        return "-"
    return " ".join(words)


def text_words(text):
    """The words of which words_text makes this text."""
    if text == "-":
        return []
    return text.split(" ")


def read_pair(text):
    """The PAIR with this text; raises BadText."""
    pair = tuple(text.split("-"))
    if not is_pair(pair):
        raise BadText()
    return pair


def read_pairs(text):
    """The PAIRs with this text, in its order; raises BadText."""
    return tuple([read_pair(word) for word in text_words(text)])


def read_rule(text):
    """The RULE with this text; raises BadText."""
    wants, _, gives = text.partition(">")
    rule = (read_pairs(wants), read_pair(gives))
    if not is_rule(rule):
        raise BadText()
    return rule


def read_flood(text):
    """The FLOOD with this text; raises BadText."""
    name, _, told = text.partition(": ")
    joined, _, parted = told.partition(" / ")
    flood = (name, read_pairs(joined), read_pairs(parted))
    if not is_flood(flood):
        raise BadText()
    return flood


def read_islands(text):
    """The NAMEs with this text, in its order; raises BadText."""
    words = text_words(text)
    if not all([is_name(word) for word in words]):
        raise BadText()
    return words


def read_talk(text):
    """The Talk that tells what stands in the text, in whatever order; raises BadText."""
    first, *others = text.split("; ")
    islands = read_islands(first)
    rules = [read_rule(part) for part in others if ">" in part]
    floods = [read_flood(part) for part in others if ">" not in part]
    try:
        return Talk(islands, rules, floods)
    except (NoIsland, Twice):
        raise BadText() from None


def pairs_between(islands):
    """The set of all PAIRs of the ISLANDs, a set."""
    return tuple([(one, other) for one in islands for other in islands if one < other])


def pairs_names(pairs):
    """The NAMEs in the PAIRs, one behind another."""
    return [name for pair in pairs for name in pair]


def rule_pairs(rule):
    """The PAIRs of a RULE, wants ahead of gives."""
    return (*rule[0], rule[1])


def told_names(rules, floods):
    """The NAMEs of ISLANDs in the RULEs, then in the FLOODS, one behind another."""
    names = [pairs_names(rule_pairs(rule)) for rule in rules]
    names.extend([pairs_names(joined + parted) for _, joined, parted in floods])
    return [name for part in names for name in part]


def check_islands(islands, names):
    """Raises NoIsland for the first one of names that is none of the ISLANDs."""
    known = set(islands)
    for name in names:
        if name not in known:
            raise NoIsland(name)


def check_twice(names):
    """Raises Twice for the first NAME that stands ahead of itself, too."""
    seen = set()
    for name in names:
        if name in seen:
            raise Twice(name)
        seen.add(name)


class Talk:
    """ISLANDs, RULEs and FLOODS. It never changes."""

    def __init__(self, islands=(), rules=(), floods=()):
        handed_rules = frozen(rules)
        handed_floods = frozen(floods)
        check_islands(islands, told_names(handed_rules, handed_floods))
        check_twice([flood[0] for flood in handed_floods])
        self._islands = ascending(islands)
        self._rules = ascending(handed_rules)
        self._floods = ascending(handed_floods)

    @staticmethod
    def of(text):
        """The Talk with just this text; raises BadText."""
        talk = read_talk(text)
        # Reading takes any order and doubled parts: only its own text has neither.
        if talk.text != text:
            raise BadText()
        return talk

    @property
    def islands(self):
        """The set of the ISLANDs."""
        return self._islands

    @property
    def rules(self):
        """The set of the RULEs."""
        return self._rules

    @property
    def floods(self):
        """The ascending tuple of the FLOODS."""
        return self._floods

    @property
    def names(self):
        """The set of the NAMEs of the FLOODS."""
        return tuple([flood[0] for flood in self._floods])

    @property
    def pairs(self):
        """The set of all PAIRs of the ISLANDs."""
        return pairs_between(self._islands)

    @property
    def text(self):
        """The text that tells this Talk."""
        parts = [words_text(self._islands)]
        parts.extend([rule_text(rule) for rule in self._rules])
        parts.extend([flood_text(flood) for flood in self._floods])
        return "; ".join(parts)

    def __len__(self):
        return len(self._rules + self._floods)

    def __getitem__(self, name):
        for flood in self._floods:
            if flood[0] == name:
                return flood
        raise NoFlood(name)

    def __iter__(self):
        raise TypeError("a Talk is not to be gone through")

    def __contains__(self, thing):
        return thing in self._rules or thing in self.names

    def __eq__(self, other):
        return (isinstance(other, Talk) and self._islands == other.islands
                and self._rules == other.rules and self._floods == other.floods)

    def __add__(self, other):
        if not isinstance(other, Talk):
            return NotImplemented
        # The NAMEs of other ascend, so Talk finds the least one of those that both have.
        return Talk(self._islands + other.islands, self._rules + other.rules, self._floods + other.floods)

    def __rshift__(self, rule):
        return with_rule(self, rule)


def with_rule(talk, rule):
    """The Talk with this RULE, too; raises NoIsland."""
    return Talk(talk.islands, (*talk.rules, rule), talk.floods)


def without_rule(talk, rule):
    """The Talk without this RULE; raises NoRule."""
    told = frozen(rule)
    if told not in talk.rules:
        raise NoRule(told)
    return Talk(talk.islands, [kept for kept in talk.rules if kept != told], talk.floods)


def with_flood(talk, flood):
    """The Talk with this FLOOD, too; raises NoIsland, then Twice."""
    return Talk(talk.islands, talk.rules, (*talk.floods, flood))


def without_flood(talk, name):
    """The Talk without the FLOOD of this NAME; raises NoFlood."""
    gone = talk[name]
    return Talk(talk.islands, talk.rules, [flood for flood in talk.floods if flood != gone])


def flood_told(talk, name, pair, joined):
    """The Talk in which the FLOOD of this NAME tells the PAIR, too; raises NoFlood, then NoIsland."""
    _, ups, downs = talk[name]
    if joined:
        ups = ascending((*ups, frozen(pair)))
    else:
        downs = ascending((*downs, frozen(pair)))
    return with_flood(without_flood(talk, name), (name, ups, downs))


def with_islands(talk, islands):
    """The Talk with these ISLANDs, too."""
    return Talk((*talk.islands, *islands), talk.rules, talk.floods)


def pairs_among(islands, pairs):
    """Those of the PAIRs of which both ISLANDs are among these."""
    return tuple([pair for pair in pairs if pair[0] in islands and pair[1] in islands])


def is_among(islands, rule):
    """Whether all ISLANDs of the RULE are among these."""
    return all([name in islands for name in pairs_names(rule_pairs(rule))])


def only_islands(talk, islands):
    """The Talk of these ISLANDs alone; raises NoIsland."""
    check_islands(talk.islands, islands)
    rules = [rule for rule in talk.rules if is_among(islands, rule)]
    floods = [(name, pairs_among(islands, joined), pairs_among(islands, parted))
              for name, joined, parted in talk.floods]
    return Talk(islands, rules, floods)


def renamed_pair(names, pair):
    """The PAIR of the new NAMEs of both ISLANDs, which may turn it about."""
    return ascending([names[island] for island in pair])


def renamed_pairs(names, pairs):
    """The set of the PAIRs with the new NAMEs."""
    return ascending([renamed_pair(names, pair) for pair in pairs])


def renamed(talk, pairs):
    """The Talk with new NAMEs for some ISLANDs, all at once; raises NoIsland, then Twice."""
    check_islands(talk.islands, [pair[0] for pair in pairs])
    names = {island: island for island in talk.islands}
    for island, name in pairs:
        names[island] = name
    islands = sorted(names.values())
    # In ascending order the first NAME that stands there twice is the least one.
    check_twice(islands)
    rules = [(renamed_pairs(names, wants), renamed_pair(names, gives)) for wants, gives in talk.rules]
    floods = [(name, renamed_pairs(names, joined), renamed_pairs(names, parted))
              for name, joined, parted in talk.floods]
    return Talk(islands, rules, floods)
