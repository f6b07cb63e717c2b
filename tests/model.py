"""Setting, told once more: place by place on one list, with no thought of speed, for comparison."""

PASSING = {0: 0, 1: 1, 2: 2, 3: 4}


class Model:
    """pieces: (first, last, sign); rules: (kind, passes, entries) with entries as in files.py;
    contexts: dicts with before, there, behind, acts; features: tag to (changes, places)."""

    def __init__(self, classes, widths, pieces, changes, places, features):
        self.classes = classes
        self.widths = widths
        self.pieces = pieces
        self.changes = changes
        self.places = places
        self.features = features

    def sign_of(self, character):
        for first, last, one in self.pieces:
            if first <= character <= last:
                return one + character - first
        return 0

    def passed(self, passes, one):
        return bool(PASSING[self.classes[one]] & passes)

    def near(self, row, at, passes, step):
        """The places that aren't passed over, from at on (not at itself), onward or backward."""
        found = []
        at += step
        while 0 <= at < len(row):
            if not self.passed(passes, row[at][0]):
                found.append(at)
            at += step
        return found

    def set(self, room, characters, tags):
        row = [[self.sign_of(character), number] for number, character in enumerate(characters)]
        features = [self.features[tag] for tag in tags if tag in self.features]
        for number in sorted({number for feature in features for number in feature[0]}):
            if not self.change(row, *self.changes[number]):
                return [-5]
        for one in row:
            one.extend([self.widths[one[0]], 0, 0])
        for number in sorted({number for feature in features for number in feature[1]}):
            self.place(row, *self.places[number])
        if len(row) > room:
            return [-6]
        return [len(row)] + [value % 2 ** 32 for one in row for value in one]

    def change(self, row, kind, passes, entries):
        step = {1: self.exchange, 2: self.spread, 3: self.join, 4: self.around}[kind]
        at = 0
        while at < len(row):
            if self.passed(passes, row[at][0]):
                at += 1
            else:
                at = step(row, at, passes, entries)
            if len(row) > 4096:
                return False
        return True

    def exchange(self, row, at, passes, entries):
        for first, other in entries:
            if row[at][0] == first:
                row[at][0] = other
                break
        return at + 1

    def spread(self, row, at, passes, entries):
        for first, parts in entries:
            if row[at][0] == first:
                row[at:at + 1] = [[part, row[at][1]] for part in parts]
                return at + len(parts)
        return at + 1

    def join(self, row, at, passes, entries):
        behind = self.near(row, at, passes, 1)
        for first, more, one in entries:
            taken = behind[:len(more)]
            if row[at][0] == first and [row[place][0] for place in taken] == list(more):
                row[at][0] = one
                for place in reversed(taken):
                    row.pop(place)
                break
        return at + 1

    def around(self, row, at, passes, entries):
        onward = [at] + self.near(row, at, passes, 1)
        backward = self.near(row, at, passes, -1)
        for entry in entries:
            there = len(entry["there"])
            if self.fits(row, onward, list(entry["there"]) + list(entry["behind"])) and \
                    self.fits(row, backward, entry["before"]):
                for place, number in entry["acts"]:
                    self.exchange(row, onward[place], 0, self.changes[number][2])
                return onward[there - 1] + 1
        return at + 1

    def fits(self, row, places, sets):
        return len(places) >= len(sets) and all(row[place][0] in one for place, one in zip(places, sets))

    def place(self, row, kind, passes, entries):
        at = 0
        while at < len(row):
            if not self.passed(passes, row[at][0]):
                if kind == 1:
                    self.move(row, at, entries)
                elif kind == 2:
                    self.pair(row, at, passes, entries)
                else:
                    self.attach(row, at, kind, entries)
            at += 1

    def move(self, row, at, entries):
        for one, right, up, wider in entries:
            if one == row[at][0]:
                row[at][2] += wider
                row[at][3] += right
                row[at][4] += up

    def pair(self, row, at, passes, entries):
        behind = self.near(row, at, passes, 1)
        for first, second, wider in entries:
            if behind and (first, second) == (row[at][0], row[behind[0]][0]):
                row[at][2] += wider

    def attach(self, row, at, kind, entries):
        marks, bases = entries
        base = at - 1
        while kind == 3 and base >= 0 and self.classes[row[base][0]] == 3:
            base -= 1
        if base < 0 or (kind == 4 and self.classes[row[base][0]] != 3):
            return
        for mark, mark_class, mark_right, mark_up in marks:
            for one, base_class, right, up in bases:
                if (mark, one, mark_class) == (row[at][0], row[base][0], base_class):
                    between = sum(row[place][2] for place in range(base, at))
                    row[at][3] = row[base][3] + right - mark_right - between
                    row[at][4] = row[base][4] + up - mark_up
