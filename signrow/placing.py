"""The rules that place, done along a row."""

from signrow.placefile import MARK_TO_BASE, MOVE, PAIR


def move_signs(font, rule, row):
    for at in font.left_places(rule, row.signs):
        move = rule.body.get(row.signs[at])
        if move is not None:
            row.rights[at] += move.right
            row.ups[at] += move.up
            row.widths[at] += move.wider


def widen_pairs(font, rule, row):
    # Told or not, the next place that isn't passed over is the second sign of the pair.
    left = font.left_places(rule, row.signs)
    for k in range(1, len(left)):
        pair = (row.signs[left[k - 1]], row.signs[left[k]])
        row.widths[left[k - 1]] += rule.body.get(pair, 0)


def attach(anchors, row, at, base, span):
    own = anchors.marks.get(row.signs[at])
    if own is None:
        return
    other = anchors.bases.get((row.signs[base], own.mark_class))
    if other is None:
        return
    row.rights[at] = row.rights[base] + other.right - own.right - span
    row.ups[at] = row.ups[base] + other.up - own.up


def attach_to_bases(font, rule, row):
    base = -1
    # How wide all signs are from the base on up to the place.
    span = 0
    for at, sign in enumerate(row.signs):
        if base >= 0 and not font.passes_over(rule, sign):
            attach(rule.body, row, at, base, span)
        if font.is_mark(sign):
            span += row.widths[at]
        else:
            base = at
            span = row.widths[at]


def attach_to_marks(font, rule, row):
    for at in font.left_places(rule, row.signs):
        if at > 0 and font.is_mark(row.signs[at - 1]):
            attach(rule.body, row, at, at - 1, row.widths[at - 1])


def place_by(font, rule, row):
    if rule.kind == MOVE:
        move_signs(font, rule, row)
    elif rule.kind == PAIR:
        widen_pairs(font, rule, row)
    elif rule.kind == MARK_TO_BASE:
        attach_to_bases(font, rule, row)
    else:
        attach_to_marks(font, rule, row)
