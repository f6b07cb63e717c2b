"""A row of signs on its way from characters to what is answered."""

MOST_SIGNS = 4096


class TooLong(Exception):
    pass


class Row:
    def __init__(self, signs, characters):
        # characters: of each sign the number of the character that it came of.
        self.signs = []
        self.characters = []
        self.widths = []
        self.rights = []
        self.ups = []
        self.become(signs, characters)

    def become(self, signs, characters):
        if len(signs) > MOST_SIGNS:
            raise TooLong("the row has too many signs")
        self.signs = signs
        self.characters = characters

    def begin_placing(self, font):
        self.widths = [font.widths[sign] for sign in self.signs]
        self.rights = [0 for sign in self.signs]
        self.ups = [0 for sign in self.signs]
