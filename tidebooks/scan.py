"""Stepping through a text, byte by byte, and telling where it is at fault first."""

GRAMMAR = 1
MOST_NAME = 7


class Fault(Exception):
    """A text that isn't right: its first fault's kind, and how many bytes stand before it."""

    def __init__(self, kind, place):
        Exception.__init__(self)
        self.kind = kind
        self.place = place


def is_digit(byte):
    return ord("0") <= byte <= ord("9")


def is_letter(byte):
    return ord("A") <= byte <= ord("Z") or ord("a") <= byte <= ord("z")


def is_name_sign(byte):
    return is_letter(byte) or is_digit(byte)


def is_name(row):
    """Whether these bytes, all of them, are a NAME."""
    if not 1 <= len(row) <= MOST_NAME:
        return False
    return is_letter(row[0]) and all([is_name_sign(byte) for byte in row])


def number_of(digits):
    number = 0
    for digit in digits:
        number = number * 10 + digit
    return number


class Scanner:
    """A text and the place reached in it.

    The readers step on by one byte at a time, only where some text of the grammar goes on with it: so the
    place of a fault in the grammar is the place reached.
    """

    def __init__(self, row):
        self.row = row
        self.place = 0
        self.blames = []

    def at_end(self):
        return self.place == len(self.row)

    def ahead(self):
        """The byte that comes next; at the end -1, which no grammar has."""
        if self.at_end():
            return -1
        return self.row[self.place]

    def sees(self, sign):
        return self.ahead() == ord(sign)

    def read_word(self, word):
        for sign in word:
            if not self.sees(sign):
                raise Fault(GRAMMAR, self.place)
            self.place += 1

    def read_one_of(self, words):
        """Gives the one of these words that comes next. None of them may begin another."""
        left = list(words)
        step = 0
        while True:
            left = [word for word in left if self.sees(word[step])]
            if not left:
                raise Fault(GRAMMAR, self.place)
            self.place += 1
            step += 1
            if len(left[0]) == step:
                return left[0]

    def read_name(self):
        """Gives a NAME, as a tuple of its bytes."""
        begin = self.place
        if not is_letter(self.ahead()):
            raise Fault(GRAMMAR, self.place)
        while self.place < begin + MOST_NAME and is_name_sign(self.ahead()):
            self.place += 1
        return tuple(self.row[begin:self.place])

    def read_digits(self, least, most):
        digits = []
        while len(digits) < most and is_digit(self.ahead()):
            digits.append(self.ahead() - ord("0"))
            self.place += 1
        if len(digits) < least:
            raise Fault(GRAMMAR, self.place)
        return digits

    def read_decimal(self, whole, part):
        """Gives 1 to whole digits, with 1 to part more behind a point if one is there, times 10 to the part."""
        digits = self.read_digits(1, whole)
        behind = []
        if self.sees("."):
            self.read_word(".")
            behind = self.read_digits(1, part)
        return number_of(digits + behind + [0] * (part - len(behind)))

    def read_signed(self, whole, part):
        if not self.sees("-"):
            return self.read_decimal(whole, part)
        self.read_word("-")
        return -self.read_decimal(whole, part)

    def blame(self, kind, place):
        """Notes a fault that counts only if the whole text keeps to the grammar."""
        self.blames.append((place, kind))

    def close(self):
        """The text has to end here: raises its first fault, if it has one."""
        if not self.at_end():
            raise Fault(GRAMMAR, self.place)
        if self.blames:
            first = min(self.blames)
            raise Fault(first[1], first[0])
