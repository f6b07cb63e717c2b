"""Files of rules, made from plain values, right or wrong, and sessions of calls."""

from signrow.setter import answers


def u16(value):
    return [value // 256 % 256, value % 256]


def u32(value):
    return u16(value // 65536) + u16(value % 65536)


def s16(value):
    return u16(value % 65536)


def u16s(*values):
    return [byte for value in values for byte in u16(value)]


def s16s(*values):
    return [byte for value in values for byte in s16(value)]


def many(parts):
    return u16(len(parts)) + [byte for part in parts for byte in part]


def signs(values):
    return many([u16(value) for value in values])


def rule(kind, passes, *bodies):
    return u16s(kind, passes) + [byte for body in bodies for byte in body]


def exchange(pairs, passes=0):
    return rule(1, passes, many([u16s(*pair) for pair in pairs]))


def spread(pairs, passes=0):
    return rule(2, passes, many([u16(first) + signs(parts) for first, parts in pairs]))


def join(entries, passes=0):
    """entries: (first, those that follow, the sign for all)"""
    return rule(3, passes, many([u16(first) + signs(more) + u16(one) for first, more, one in entries]))


def context(there, before=(), behind=(), acts=()):
    parts = [many([signs(one) for one in sets]) for sets in (before, there, behind)]
    return [byte for part in parts for byte in part] + many([u16s(*act) for act in acts])


def around(contexts, passes=0):
    return rule(4, passes, many(contexts))


def move(entries, passes=0):
    """entries: (sign, right, up, wider)"""
    return rule(1, passes, many([u16(entry[0]) + s16s(*entry[1:]) for entry in entries]))


def pairs(entries, passes=0):
    """entries: (first, second, wider)"""
    return rule(2, passes, many([u16s(*entry[:2]) + s16(entry[2]) for entry in entries]))


def anchors(kind, marks, bases, passes=0):
    """marks, bases: (sign, class, right, up)"""
    lists = [many([u16s(*entry[:2]) + s16s(*entry[2:]) for entry in entries]) for entries in (marks, bases)]
    return rule(kind, passes, *lists)


def piece(first, last, sign):
    return u32(first) + u32(last) + u16(sign)


def feature(tag, changes=(), places=()):
    return u32(tag) + signs(changes) + signs(places)


def file(count=1, pieces=(), classes=None, widths=None, changes=(), places=(), features=()):
    """The bytes of a file; pieces, changes, places and features are each a list of bytes already."""
    classes = [0] * count if classes is None else classes
    widths = [0] * count if widths is None else widths
    content = [0x49, 0x70] + u16(count) + many(pieces) + list(classes) + u16s(*widths)
    return content + many(changes) + many(places) + many(features)


TAG = 0x74657374


def ruled(changes=(), places=(), classes=None, count=32, widths=None):
    """A file in which character c is sign c, and the feature TAG asks for all rules."""
    if classes is not None:
        count = len(classes)
    asked = feature(TAG, range(len(changes)), range(len(places)))
    return file(count, [piece(0, count - 1, 0)], classes, widths, changes, places, [asked])


def start():
    return [1]


def opened(content):
    return [2, len(content)] + list(content)


def sign(character):
    return [3, character]


def has(tag):
    return [4, tag]


def put(characters, tags=(TAG,), room=4096):
    return [5, room, len(characters)] + list(characters) + [len(tags)] + list(tags)


def talk(*calls):
    """The answers to these calls behind one sg_start, a list for each, less that of sg_start."""
    flat = [number for call in (start(),) + calls for number in call]
    return split(answers(flat))[1:]


def split(given):
    lists = []
    at = 0
    while at < len(given):
        end = at + 1 + given[at]
        lists.append(given[at + 1:end])
        at = end
    if at != len(given):
        raise AssertionError("the last answer is shorter than it says")
    return lists


def placed(content, characters, tags=(TAG,)):
    """The row as (sign, character's number, width, right, up), the last three with their signs."""
    count, row = talk(opened(content), put(characters, tags))
    if count[0] < 1 or row[0] < 0:
        raise AssertionError(f"refused: {count}, {row}")
    rows = [tuple(row[at:at + 5]) for at in range(1, len(row), 5)]
    if row[0] != len(rows):
        raise AssertionError("the count isn't that of the signs")
    return [one[:2] + tuple(below_zero(value) for value in one[2:]) for one in rows]


def below_zero(value):
    return value - 2 ** 32 if value >= 2 ** 31 else value


def set_signs(content, characters, tags=(TAG,)):
    return [one[0] for one in placed(content, characters, tags)]


def set_numbers(content, characters, tags=(TAG,)):
    return [one[1] for one in placed(content, characters, tags)]
