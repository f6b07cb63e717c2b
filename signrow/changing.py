"""The rules that change, done along a row."""

from signrow.changefile import EXCHANGE, JOIN, SPREAD


def exchange_signs(font, rule, row):
    signs = list(row.signs)
    for at in font.left_places(rule, row.signs):
        signs[at] = rule.body.get(signs[at], signs[at])
    row.become(signs, row.characters)


def spread_signs(font, rule, row):
    signs = []
    characters = []
    for sign, character in zip(row.signs, row.characters):
        parts = None if font.passes_over(rule, sign) else rule.body.get(sign)
        if parts is None:
            parts = [sign]
        signs.extend(parts)
        characters.extend([character for part in parts])
    row.become(signs, characters)


def join_signs(font, rule, row):
    left = font.left_places(rule, row.signs)
    line = [row.signs[at] for at in left]
    signs = list(row.signs)
    gone = {}
    k = 0
    # A joined sign isn't looked at again, and what follows is still as it was: line needn't follow the changes.
    while k < len(line):
        joining = rule.body.first_fitting(line, k)
        if joining is None:
            k += 1
        else:
            signs[left[k]] = joining.joined
            for at in left[k + 1:k + joining.length]:
                gone[at] = True
            k += joining.length
    staying = [at for at in range(len(signs)) if at not in gone]
    row.become([signs[at] for at in staying], [row.characters[at] for at in staying])


def do_acts(font, acts, line, k):
    for place, number in acts:
        # The act asks only whether the sign is among the rule's first ones, not what that rule passes over.
        sign = line[k + place]
        line[k + place] = font.changes[number].body.get(sign, sign)


def change_around(font, rule, row):
    left = font.left_places(rule, row.signs)
    line = [row.signs[at] for at in left]
    # An act may turn a sign into one that's passed over: what stands before is gathered anew, not read from line.
    past = []
    k = 0
    while k < len(line):
        context = rule.body.first_fitting(line, k, past)
        end = k + 1
        if context is not None:
            do_acts(font, context.acts, line, k)
            end = k + len(context.there)
        past.extend([sign for sign in line[k:end] if not font.passes_over(rule, sign)])
        k = end
    signs = list(row.signs)
    for at, sign in zip(left, line):
        signs[at] = sign
    row.become(signs, row.characters)


def change_by(font, rule, row):
    if rule.kind == EXCHANGE:
        exchange_signs(font, rule, row)
    elif rule.kind == SPREAD:
        spread_signs(font, rule, row)
    elif rule.kind == JOIN:
        join_signs(font, rule, row)
    else:
        change_around(font, rule, row)
