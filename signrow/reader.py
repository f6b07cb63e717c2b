"""The bytes of a file, read strictly from the first to the last."""


class WrongFile(Exception):
    pass


def require(right):
    if not right:
        raise WrongFile("the file isn't right")


def require_rising(keys):
    for k in range(1, len(keys)):
        require(keys[k - 1] < keys[k])


def require_not_falling(keys):
    for k in range(1, len(keys)):
        require(keys[k - 1] <= keys[k])


class Reader:
    def __init__(self, content):
        self.content = content
        self.at = 0
        # No number is a sign until the file has told how many signs there are.
        self.sign_count = 0

    def byte(self):
        require(self.at < len(self.content))
        value = self.content[self.at]
        self.at += 1
        return value

    def number(self):
        high = self.byte()
        return high * 256 + self.byte()

    def long_number(self):
        high = self.number()
        return high * 65536 + self.number()

    def signed_number(self):
        value = self.number()
        return value - 65536 if value >= 32768 else value

    def within(self, lowest, highest):
        value = self.number()
        require(lowest <= value)
        require(value <= highest)
        return value

    def sign(self):
        return self.within(0, self.sign_count - 1)

    def many_signs(self, fewest, most):
        return [self.sign() for k in range(self.within(fewest, most))]

    def require_end(self):
        require(self.at == len(self.content))
