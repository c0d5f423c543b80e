"""Lesser ports' and streams' texts: which are right, and the two names in them."""

from tidebooks.scan import Scanner, number_of

WRONG_TIME = 2
SAME_TIME = 3
NOT_RISING = 4
RANGES_NOT_RISING = 5
WRONG_HOUR = 6
WRONG_DIRECTION = 7

HALF_DAY = 720
LEAST_PAIRS = 2
MOST_PAIRS = 8
MOST_DIRECTION = 359

LESSER = "lesser "
STREAM = "stream "
BLANK = " "
END = "\n"

HOURS = ("-6", "-5", "-4", "-3", "-2", "-1", "0", "+1", "+2", "+3", "+4", "+5", "+6")


class Heading:
    """A table's first line: its own NAME, and the port's that it is of."""

    def __init__(self, name, of):
        self.name = name
        self.of = of


def read_size(scanner):
    return scanner.read_decimal(2, 2)


def read_height(scanner):
    return scanner.read_signed(2, 2)


def read_time(scanner):
    """Gives a TIME in minutes, or None where it's at fault."""
    place = scanner.place
    digits = scanner.read_digits(4, 4)
    hours = number_of(digits[:2])
    minutes = number_of(digits[2:])
    if hours > 23 or minutes > 59:
        scanner.blame(WRONG_TIME, place)
        return None
    return hours * 60 + minutes


def read_shift(scanner):
    scanner.read_word(BLANK)
    scanner.read_one_of(("+", "-"))
    scanner.read_digits(1, 3)


def read_times(scanner, head):
    scanner.read_word(head)
    first = read_time(scanner)
    read_shift(scanner)
    scanner.read_word(BLANK)
    place = scanner.place
    second = read_time(scanner)
    read_shift(scanner)
    scanner.read_word(END)
    if first is not None and second is not None and (first - second) % HALF_DAY == 0:
        scanner.blame(SAME_TIME, place)


def pair_ends(pairs):
    """What may stand behind so many pairs."""
    if pairs < LEAST_PAIRS:
        return (BLANK,)
    if pairs < MOST_PAIRS:
        return (BLANK, END)
    return (END,)


def read_rise(scanner):
    scanner.read_word("rise ")
    before = None
    pairs = 0
    behind = BLANK
    while behind == BLANK:
        place = scanner.place
        height = read_height(scanner)
        if before is not None and height <= before:
            scanner.blame(NOT_RISING, place)
        before = height
        scanner.read_word(BLANK)
        read_height(scanner)
        pairs += 1
        behind = scanner.read_one_of(pair_ends(pairs))


def read_ranges(scanner):
    scanner.read_word("ranges ")
    first = read_size(scanner)
    scanner.read_word(BLANK)
    place = scanner.place
    if read_size(scanner) <= first:
        scanner.blame(RANGES_NOT_RISING, place)
    scanner.read_word(END)


def read_rate(scanner):
    scanner.read_word(BLANK)
    scanner.read_decimal(2, 1)


def read_hour(scanner, hour):
    """Reads the line where this hour is the next."""
    scanner.read_word("hour ")
    place = scanner.place
    if scanner.read_one_of(HOURS) != hour:
        scanner.blame(WRONG_HOUR, place)
    scanner.read_word(BLANK)
    place = scanner.place
    if number_of(scanner.read_digits(3, 3)) > MOST_DIRECTION:
        scanner.blame(WRONG_DIRECTION, place)
    read_rate(scanner)
    read_rate(scanner)
    scanner.read_word(END)


def read_lesser(scanner):
    read_times(scanner, "high ")
    read_times(scanner, "low ")
    read_rise(scanner)


def read_stream(scanner):
    read_ranges(scanner)
    for hour in HOURS:
        read_hour(scanner, hour)


def read_table(row):
    """Gives the Heading of a right text; of another, raises its Fault."""
    scanner = Scanner(row)
    head = scanner.read_one_of((LESSER, STREAM))
    name = scanner.read_name()
    scanner.read_word(" of ")
    heading = Heading(name, scanner.read_name())
    scanner.read_word(END)
    if head == LESSER:
        read_lesser(scanner)
    else:
        read_stream(scanner)
    scanner.close()
    return heading
