"""Ports' texts: which are right over a sky."""

from tidebooks.scan import Scanner

DOUBLE = 2
UNKNOWN = 3
LAG_BEYOND = 4

# Lags are read in thousandths of a degree.
FULL_TURN = 360000


def read_size(scanner):
    return scanner.read_decimal(2, 4)


def read_wave(scanner, known, names):
    """Reads a line of a wave that is known to the sky, and puts its name to the names."""
    scanner.read_word("wave ")
    place = scanner.place
    name = scanner.read_name()
    if name in names:
        scanner.blame(DOUBLE, place)
    if name not in known:
        scanner.blame(UNKNOWN, place)
    names[name] = True
    scanner.read_word(" ")
    read_size(scanner)
    scanner.read_word(" ")
    place = scanner.place
    if scanner.read_decimal(3, 3) >= FULL_TURN:
        scanner.blame(LAG_BEYOND, place)
    scanner.read_word("\n")


def read_port(row, known):
    """Gives a dict of the names in a port's text that's right over a sky with the known waves and sums.

    Of another text, raises its Fault.
    """
    scanner = Scanner(row)
    names = {}
    scanner.read_word("level ")
    scanner.read_signed(2, 4)
    scanner.read_word("\n")
    while not scanner.at_end():
        read_wave(scanner, known, names)
    scanner.close()
    return names
