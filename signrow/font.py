"""What a file tells, once it has been read."""

MARK = 3

# For each class the number that stands for it in what a rule passes over; class 0 is never passed over.
PASSING = (0, 1, 2, 4)


class Rule:
    def __init__(self, kind, passes, body):
        self.kind = kind
        self.passes = passes
        self.body = body


class Feature:
    def __init__(self, change_numbers, place_numbers):
        self.change_numbers = change_numbers
        self.place_numbers = place_numbers


class Font:
    def __init__(self, pieces, classes, widths):
        self.pieces = pieces
        self.classes = classes
        self.widths = widths
        self.passing = [PASSING[sign_class] for sign_class in classes]
        self.changes = []
        self.places = []
        self.features = {}

    def sign_of(self, character):
        # The pieces rise, so the only one that can hold the character is the first that doesn't end before it.
        low = 0
        high = len(self.pieces)
        while low < high:
            middle = (low + high) // 2
            if self.pieces[middle][1] < character:
                low = middle + 1
            else:
                high = middle
        if low == len(self.pieces):
            return 0
        piece = self.pieces[low]
        return piece[2] + character - piece[0] if piece[0] <= character else 0

    def is_mark(self, sign):
        return self.classes[sign] == MARK

    def passes_over(self, rule, sign):
        return (rule.passes & self.passing[sign]) != 0

    def left_places(self, rule, signs):
        passing = self.passing
        passes = rule.passes
        return [at for at, sign in enumerate(signs) if (passes & passing[sign]) == 0]
