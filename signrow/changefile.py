"""The part of a file that tells the rules that change."""

from signrow.contexts import Context, Contexts
from signrow.font import Rule
from signrow.joinings import Joinings
from signrow.reader import require, require_not_falling, require_rising

EXCHANGE = 1
SPREAD = 2
JOIN = 3
LOOK_AROUND = 4


def read_exchanges(reader):
    pairs = []
    for k in range(reader.within(1, 1024)):
        first = reader.sign()
        pairs.append((first, reader.sign()))
    require_rising([pair[0] for pair in pairs])
    return dict(pairs)


def read_spreads(reader):
    pairs = []
    for k in range(reader.within(1, 1024)):
        first = reader.sign()
        pairs.append((first, reader.many_signs(1, 8)))
    require_rising([pair[0] for pair in pairs])
    return dict(pairs)


def read_joinings(reader):
    joinings = Joinings()
    firsts = []
    for k in range(reader.within(1, 1024)):
        first = reader.sign()
        signs = [first] + reader.many_signs(1, 7)
        joinings.tell(signs, reader.sign())
        firsts.append(first)
    require_not_falling(firsts)
    return joinings


def read_set(reader):
    signs = reader.many_signs(1, 1024)
    require_rising(signs)
    return signs


def read_sets(reader, fewest):
    return [read_set(reader) for k in range(reader.within(fewest, 8))]


def read_act(reader, place_count):
    place = reader.within(0, place_count - 1)
    return (place, reader.number())


def read_context(reader):
    before = read_sets(reader, 0)
    there = read_sets(reader, 1)
    behind = read_sets(reader, 0)
    acts = [read_act(reader, len(there)) for k in range(reader.within(0, 8))]
    return Context(before, there, behind, acts)


def read_contexts(reader):
    return Contexts([read_context(reader) for k in range(reader.within(1, 64))])


def read_body(reader, kind):
    if kind == EXCHANGE:
        return read_exchanges(reader)
    if kind == SPREAD:
        return read_spreads(reader)
    if kind == JOIN:
        return read_joinings(reader)
    return read_contexts(reader)


def read_rule(reader):
    kind = reader.within(EXCHANGE, LOOK_AROUND)
    passes = reader.within(0, 7)
    return Rule(kind, passes, read_body(reader, kind))


def require_acts(contexts, rules):
    for context in contexts.entries:
        for place, number in context.acts:
            require(number < len(rules))
            require(rules[number].kind == EXCHANGE)


def read_change_rules(reader):
    rules = [read_rule(reader) for k in range(reader.within(0, 64))]
    # An act may name a rule that stands behind it, so acts are looked at when all rules are there.
    for rule in rules:
        if rule.kind == LOOK_AROUND:
            require_acts(rule.body, rules)
    return rules
