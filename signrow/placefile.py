"""The part of a file that tells the rules that place."""

from signrow.font import Rule
from signrow.reader import require_rising

MOVE = 1
PAIR = 2
MARK_TO_BASE = 3
MARK_TO_MARK = 4


class Anchor:
    def __init__(self, mark_class, right, up):
        self.mark_class = mark_class
        self.right = right
        self.up = up


class Anchors:
    def __init__(self, marks, bases):
        self.marks = marks
        self.bases = bases


class Move:
    def __init__(self, right, up, wider):
        self.right = right
        self.up = up
        self.wider = wider


def read_move(reader):
    right = reader.signed_number()
    up = reader.signed_number()
    return Move(right, up, reader.signed_number())


def read_moves(reader):
    pairs = []
    for k in range(reader.within(1, 1024)):
        sign = reader.sign()
        pairs.append((sign, read_move(reader)))
    require_rising([pair[0] for pair in pairs])
    return dict(pairs)


def read_pairs(reader):
    pairs = []
    for k in range(reader.within(1, 1024)):
        first = reader.sign()
        second = reader.sign()
        pairs.append(((first, second), reader.signed_number()))
    require_rising([pair[0] for pair in pairs])
    return dict(pairs)


def read_anchor(reader):
    mark_class = reader.number()
    right = reader.signed_number()
    return Anchor(mark_class, right, reader.signed_number())


def read_anchor_list(reader):
    pairs = []
    for k in range(reader.within(1, 1024)):
        sign = reader.sign()
        pairs.append((sign, read_anchor(reader)))
    return pairs


def read_anchors(reader):
    marks = read_anchor_list(reader)
    require_rising([pair[0] for pair in marks])
    bases = [((sign, anchor.mark_class), anchor) for sign, anchor in read_anchor_list(reader)]
    require_rising([pair[0] for pair in bases])
    return Anchors(dict(marks), dict(bases))


def read_body(reader, kind):
    if kind == MOVE:
        return read_moves(reader)
    if kind == PAIR:
        return read_pairs(reader)
    return read_anchors(reader)


def read_rule(reader):
    kind = reader.within(MOVE, MARK_TO_MARK)
    passes = reader.within(0, 7)
    return Rule(kind, passes, read_body(reader, kind))


def read_place_rules(reader):
    return [read_rule(reader) for k in range(reader.within(0, 64))]
