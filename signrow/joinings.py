"""The entries of a rule that joins signs, laid out so that a place is asked once for each length, not each entry."""


class Joining:
    def __init__(self, order, length, joined):
        self.order = order
        self.length = length
        self.joined = joined


class Joinings:
    def __init__(self):
        self.by_signs = {}
        self.lengths = {}

    def tell(self, signs, joined):
        told = tuple(signs)
        # Of two entries with the same signs only the first one in the file can ever be the first that fits.
        if told in self.by_signs:
            return
        self.by_signs[told] = Joining(len(self.by_signs), len(told), joined)
        lengths = self.lengths.setdefault(told[0], [])
        if len(told) not in lengths:
            lengths.append(len(told))

    def first_fitting(self, line, at):
        best = None
        for length in self.lengths.get(line[at], []):
            joining = self.by_signs.get(tuple(line[at:at + length]))
            if joining is not None and (best is None or joining.order < best.order):
                best = joining
        return best
