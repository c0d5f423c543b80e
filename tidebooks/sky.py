"""Skies' texts: which are right, and what waves and sums they have."""

from tidebooks.scan import Scanner, is_digit

DOUBLE = 2
UNKNOWN = 3
TOO_MANY = 4
TOO_MUCH = 5

MOST_ANGLES = 16
MOST_WAVES = 128
MOST_TERMS = 8
MOST_FACTORS = 8
MOST_SHIFTS = 8
MOST_COUNTS = 12

# Numbers are read in their 12th decimals: this is 1.
ONE = 1000000000000

ANGLE = "angle "
WAVE = "wave "
SUM = "sum "

PLUS = " + "
MINUS = " - "
TURN = " turn "
FACTOR = " factor "
SHIFT = " shift "
END = "\n"

TURNS = ("90", "180", "270")
COUNTS = ("1 ", "2 ", "3 ", "4 ", "5 ", "6 ", "7 ", "8 ", "9 ", "10 ", "11 ", "12 ", "13 ", "14 ", "15 ")


class Sum:
    """A SUM that was read: its counts together, and the word that stood behind it."""

    def __init__(self, counts, behind):
        self.counts = counts
        self.behind = behind


class Told:
    """The names that the lines so far have told."""

    def __init__(self):
        self.angles = {}
        self.waves = {}
        self.sums = {}

    def has(self, name):
        return name in self.angles or name in self.waves or name in self.sums


def read_number(scanner):
    return scanner.read_signed(3, 12)


def read_count(scanner):
    if not is_digit(scanner.ahead()):
        return 1
    return COUNTS.index(scanner.read_one_of(COUNTS)) + 1


def read_sum(scanner, known, ends):
    """Reads a SUM of known names, and the one of the ends that stands behind it."""
    if scanner.sees("-"):
        scanner.read_word("- ")
    terms = 0
    counts = 0
    behind = PLUS
    while behind in (PLUS, MINUS):
        counts += read_count(scanner)
        place = scanner.place
        if scanner.read_name() not in known:
            scanner.blame(UNKNOWN, place)
        terms += 1
        # Where a blank can't lead on to anything, the blank itself is at fault.
        behind = scanner.read_one_of((PLUS, MINUS) + ends if terms < MOST_TERMS else ends)
    return Sum(counts, behind)


def read_angle(scanner):
    read_number(scanner)
    scanner.read_word(" ")
    read_number(scanner)
    scanner.read_word(END)


def read_wave(scanner, angles):
    """Reads a wave from its first SUM on; gives its factors' NUMBERs together, without their signs."""
    behind = read_sum(scanner, angles, (TURN, FACTOR, SHIFT, END)).behind
    if behind == TURN:
        scanner.read_one_of(TURNS)
        behind = scanner.read_one_of((FACTOR, SHIFT, END))
    together = 0
    factors = 0
    while behind == FACTOR:
        factors += 1
        together += abs(read_number(scanner))
        scanner.read_word(" ")
        behind = read_sum(scanner, angles, (FACTOR, SHIFT, END) if factors < MOST_FACTORS else (SHIFT, END)).behind
    shifts = 0
    while behind == SHIFT:
        shifts += 1
        read_number(scanner)
        scanner.read_word(" ")
        behind = read_sum(scanner, angles, (SHIFT, END) if shifts < MOST_SHIFTS else (END,)).behind
    return together


def read_line(scanner, told):
    head = scanner.read_one_of((ANGLE, WAVE, SUM))
    place = scanner.place
    name = scanner.read_name()
    scanner.read_word(" ")
    if told.has(name):
        scanner.blame(DOUBLE, place)
    # A name is told only behind its whole line: the line's own SUMs don't have it yet.
    if head == ANGLE:
        read_angle(scanner)
        told.angles[name] = True
    elif head == WAVE:
        if read_wave(scanner, told.angles) >= ONE:
            scanner.blame(TOO_MUCH, place)
        told.waves[name] = True
    else:
        if read_sum(scanner, told.waves, (END,)).counts > MOST_COUNTS:
            scanner.blame(TOO_MUCH, place)
        told.sums[name] = True
    if len(told.angles) > MOST_ANGLES or len(told.waves) + len(told.sums) > MOST_WAVES:
        scanner.blame(TOO_MANY, place)


def read_sky(row):
    """Gives a dict of the names of a right text's waves and sums; of another, raises its Fault."""
    scanner = Scanner(row)
    told = Told()
    while not scanner.at_end():
        read_line(scanner, told)
    scanner.close()
    names = dict(told.waves)
    names.update(told.sums)
    return names
