"""A whole file, read into a font."""

from signrow.changefile import read_change_rules
from signrow.font import Feature, Font
from signrow.placefile import read_place_rules
from signrow.reader import Reader, require, require_rising

FIRST_BYTES = (73, 112)
LAST_CHARACTER = 1114111


def read_piece(reader, behind):
    first = reader.long_number()
    last = reader.long_number()
    require(behind < first)
    require(first <= last)
    require(last <= LAST_CHARACTER)
    sign = reader.sign()
    require(sign + last - first < reader.sign_count)
    return (first, last, sign)


def read_pieces(reader):
    pieces = []
    behind = -1
    for k in range(reader.within(0, 1024)):
        piece = read_piece(reader, behind)
        pieces.append(piece)
        behind = piece[1]
    return pieces


def read_class(reader):
    sign_class = reader.byte()
    require(sign_class <= 3)
    return sign_class


def read_rule_numbers(reader, rules):
    numbers = [reader.within(0, len(rules) - 1) for k in range(reader.within(0, 64))]
    require_rising(numbers)
    return numbers


def read_features(reader, font):
    features = {}
    tags = []
    for k in range(reader.within(0, 64)):
        tag = reader.long_number()
        change_numbers = read_rule_numbers(reader, font.changes)
        features[tag] = Feature(change_numbers, read_rule_numbers(reader, font.places))
        tags.append(tag)
    require_rising(tags)
    return features


def read_font(content):
    reader = Reader(content)
    for byte in FIRST_BYTES:
        require(reader.byte() == byte)
    reader.sign_count = reader.within(1, 4096)
    pieces = read_pieces(reader)
    classes = [read_class(reader) for k in range(reader.sign_count)]
    widths = [reader.number() for k in range(reader.sign_count)]
    font = Font(pieces, classes, widths)
    font.changes = read_change_rules(reader)
    font.places = read_place_rules(reader)
    font.features = read_features(reader, font)
    reader.require_end()
    return font
