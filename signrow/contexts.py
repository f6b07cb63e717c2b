"""The entries of a rule that looks around, laid out so that one look at a sign tells for all entries at once.

Each entry has a bit, the first entry the lowest. A slot stands for one distance from the place looked at.
"""


class Context:
    def __init__(self, before, there, behind, acts):
        self.before = before
        self.there = there
        self.behind = behind
        self.acts = acts


class Slot:
    def __init__(self, free, allowed):
        # The bits of the entries that ask nothing at this distance, and for each sign those that take it.
        self.free = free
        self.allowed = allowed

    def bits_at(self, signs, at):
        if at < 0 or at >= len(signs):
            return self.free
        return self.allowed.get(signs[at], self.free)


def make_slot(rows, distance):
    free = 0
    for order, sets in enumerate(rows):
        if len(sets) <= distance:
            free |= 1 << order
    allowed = {}
    for order, sets in enumerate(rows):
        if len(sets) > distance:
            for sign in sets[distance]:
                allowed[sign] = allowed.get(sign, free) | (1 << order)
    return Slot(free, allowed)


def make_slots(rows):
    farthest = max([len(sets) for sets in rows])
    return [make_slot(rows, distance) for distance in range(farthest)]


class Contexts:
    def __init__(self, entries):
        self.entries = entries
        self.onward = make_slots([entry.there + entry.behind for entry in entries])
        self.backward = make_slots([entry.before for entry in entries])

    def first_fitting(self, line, at, past):
        bits = (1 << len(self.entries)) - 1
        for distance, slot in enumerate(self.onward):
            bits &= slot.bits_at(line, at + distance)
            if bits == 0:
                return None
        for distance, slot in enumerate(self.backward):
            bits &= slot.bits_at(past, len(past) - 1 - distance)
        if bits == 0:
            return None
        lowest = bits & -bits
        return self.entries[lowest.bit_length() - 1]
