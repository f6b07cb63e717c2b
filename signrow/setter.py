"""The calls on one object, and what they answer."""

from signrow.changing import change_by
from signrow.fontfile import read_font
from signrow.placing import place_by
from signrow.reader import WrongFile
from signrow.row import MOST_SIGNS, Row, TooLong

SG_START = 1
SG_OPEN = 2
SG_SIGN = 3
SG_HAS = 4

WRONG_NUMBER = -1
WRONG_FILE = -2
NO_FILE = -4
TOO_LONG = -5
NO_ROOM = -6

MODULUS = 4294967296


def asked_features(font, tags):
    return [font.features[tag] for tag in tags if tag in font.features]


def rules_in_order(rules, number_lists):
    asked = {}
    for numbers in number_lists:
        for number in numbers:
            asked[number] = True
    return [rules[number] for number in sorted(asked)]


def set_characters(font, characters, tags):
    features = asked_features(font, tags)
    row = Row([font.sign_of(character) for character in characters], list(range(len(characters))))
    for rule in rules_in_order(font.changes, [feature.change_numbers for feature in features]):
        change_by(font, rule, row)
    row.begin_placing(font)
    for rule in rules_in_order(font.places, [feature.place_numbers for feature in features]):
        place_by(font, rule, row)
    return row


def tell_row(row):
    told = [len(row.signs)]
    for at, sign in enumerate(row.signs):
        told.append(sign)
        told.append(row.characters[at])
        told.append(row.widths[at] % MODULUS)
        told.append(row.rights[at] % MODULUS)
        told.append(row.ups[at] % MODULUS)
    return told


class Session:
    def __init__(self):
        self.font = None

    def start(self):
        self.font = None
        return [0]

    def take_file(self, content):
        try:
            font = read_font(content)
        except WrongFile:
            return [WRONG_FILE]
        self.font = font
        return [len(font.classes)]

    def tell_sign(self, character):
        if self.font is None:
            return [NO_FILE]
        return [self.font.sign_of(character)]

    def tell_feature(self, tag):
        if self.font is None:
            return [NO_FILE]
        return [1 if tag in self.font.features else 0]

    def tell_set(self, room, characters, tags):
        if self.font is None:
            return [NO_FILE]
        if room < 0 or room > MOST_SIGNS:
            return [WRONG_NUMBER]
        try:
            row = set_characters(self.font, characters, tags)
        except TooLong:
            return [TOO_LONG]
        if len(row.signs) > room:
            return [NO_ROOM]
        return tell_row(row)


class Feed:
    def __init__(self, calls):
        self.calls = calls
        self.at = 0

    def has_more(self):
        return self.at < len(self.calls)

    def take(self):
        self.at += 1
        return self.calls[self.at - 1]

    def take_list(self):
        begin = self.at + 1
        self.at = begin + self.calls[begin - 1]
        return self.calls[begin:self.at]


def answer_call(session, feed):
    call = feed.take()
    if call == SG_START:
        return session.start()
    if call == SG_OPEN:
        return session.take_file(feed.take_list())
    if call == SG_SIGN:
        return session.tell_sign(feed.take())
    if call == SG_HAS:
        return session.tell_feature(feed.take())
    room = feed.take()
    characters = feed.take_list()
    return session.tell_set(room, characters, feed.take_list())


def answers(calls):
    session = Session()
    feed = Feed(calls)
    given = []
    while feed.has_more():
        answer = answer_call(session, feed)
        given.append(len(answer))
        given.extend(answer)
    return given
