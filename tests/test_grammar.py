"""The place of every fault in the grammar, held against automata made from the grammars as the document writes them.

An automaton here has no state that can't reach the end; so the first byte behind which no state is left is the first
place where no text of the grammar goes on.
"""

import random
import unittest

from tests.helper import PORT, SKY, fault, lesser, row, stream
from tidebooks.port import read_port
from tidebooks.sky import read_sky
from tidebooks.table import read_table


class Automaton:
    """States are numbers: edges by byte, and free ones. The builders lead from a state to the one they give back."""

    def __init__(self):
        self.edges = []
        self.free = []
        self.start = self.state()

    def state(self):
        self.edges.append({})
        self.free.append([])
        return len(self.edges) - 1

    def reach(self, states):
        reached = set(states)
        waiting = list(states)
        while waiting:
            for state in self.free[waiting.pop()]:
                if state not in reached:
                    reached.add(state)
                    waiting.append(state)
        return reached

    def place(self, text, end):
        """Where the text is at fault, or None."""
        states = self.reach([self.start])
        for place, byte in enumerate(text):
            states = self.reach([to for state in states for to in self.edges[state].get(byte, [])])
            if not states:
                return place
        return None if end in states else len(text)


def signs(some):
    def build(made, begin):
        end = made.state()
        for sign in some:
            made.edges[begin].setdefault(ord(sign), []).append(end)
        return end
    return build


def seq(*parts):
    def build(made, begin):
        for part in parts:
            begin = (word(part) if isinstance(part, str) else part)(made, begin)
        return begin
    return build


def word(text):
    return seq(*[signs(sign) for sign in text])


def alt(*parts):
    def build(made, begin):
        end = made.state()
        for part in parts:
            first = made.state()
            made.free[begin].append(first)
            made.free[seq(part)(made, first)].append(end)
        return end
    return build


def times(least, most, part):
    def build(made, begin):
        end = made.state()
        for number in range(most):
            if number >= least:
                made.free[begin].append(end)
            begin = seq(part)(made, begin)
        made.free[begin].append(end)
        return end
    return build


def many(part):
    def build(made, begin):
        hub = made.state()
        made.free[begin].append(hub)
        made.free[seq(part)(made, hub)].append(hub)
        return hub
    return build


def opt(part):
    return times(0, 1, part)


DIGITS = "0123456789"
LETTERS = "ABCDEFGHIJKLMNOPQRSTUVWXYZabcdefghijklmnopqrstuvwxyz"


def digits(least, most):
    return times(least, most, signs(DIGITS))


def decimal(whole, part):
    return seq(digits(1, whole), opt(seq(".", digits(1, part))))


def signed(whole, part):
    return seq(opt("-"), decimal(whole, part))


NAME = seq(signs(LETTERS), times(0, 6, signs(LETTERS + DIGITS)))
NUMBER = signed(3, 12)
TERM = seq(opt(seq(alt(*[str(count) for count in range(1, 16)]), " ")), NAME)
SUM = seq(opt("- "), TERM, times(0, 7, seq(alt(" + ", " - "), TERM)))
SKIES = many(seq(alt(
    seq("angle ", NAME, " ", NUMBER, " ", NUMBER),
    seq("wave ", NAME, " ", SUM, opt(seq(" turn ", alt("90", "180", "270"))),
        times(0, 8, seq(" factor ", NUMBER, " ", SUM)), times(0, 8, seq(" shift ", NUMBER, " ", SUM))),
    seq("sum ", NAME, " ", SUM)), "\n"))
PORTS = seq("level ", signed(2, 4), "\n", many(seq("wave ", NAME, " ", decimal(2, 4), " ", decimal(3, 3), "\n")))
TIME = digits(4, 4)
MINUTES = seq(signs("+-"), digits(1, 3))
TIMES = seq(TIME, " ", MINUTES, " ", TIME, " ", MINUTES, "\n")
PAIR = seq(" ", signed(2, 2), " ", signed(2, 2))
RATE = decimal(2, 1)
HOUR = alt("0", seq(signs("+-"), signs("123456")))
TABLES = alt(
    seq("lesser ", NAME, " of ", NAME, "\nhigh ", TIMES, "low ", TIMES, "rise", times(2, 8, PAIR), "\n"),
    seq("stream ", NAME, " of ", NAME, "\nranges ", decimal(2, 2), " ", decimal(2, 2), "\n",
        times(13, 13, seq("hour ", HOUR, " ", digits(3, 3), " ", RATE, " ", RATE, "\n"))))

TERMS = "a + 2 b - 15 c - d + 10 e + 9 f - g + h"
BIG_SKY = (SKY + "wave turn - a turn 270" + " factor -0.123456789012 a - b" * 8 + " shift 999 2 a" * 8 + "\n"
           f"wave full {TERMS} factor 0 {TERMS} shift 0 {TERMS}\nsum shift {TERMS}\nsum factor turn\n")
BIG_LESSER = lesser(name="ABCDEFG", rise="".join([f" {i}.25 -{i}.5" for i in range(8)]))


def changed(source, text):
    """The text with some of it changed at random."""
    text = list(text)
    for number in range(source.randint(1, 2)):
        place = source.randrange(len(text) + 1)
        how = source.randrange(5)
        part = text[source.randrange(len(text) + 1):][:source.randint(1, 12)]
        if how == 0:
            text[place:place + 1] = [source.choice(" \n-+.0123456789azAZfst")]
        elif how == 1:
            text[place:place] = [source.choice(" \n-+.0123456789azAZfst")]
        elif how == 2:
            text[place:place + source.randint(1, 12)] = []
        elif how == 3:
            text[place:place] = part
        else:
            text[place:] = text[place:place + source.randint(0, 60)]
    return "".join(text)


class Grammars(unittest.TestCase):
    def hold(self, grammar, texts, reader, *more):
        made = Automaton()
        end = grammar(made, made.start)

        def same(text):
            found = fault(reader, text, *more)
            place = found[1] if found is not None and found[0] == 1 else None
            self.assertEqual(place, made.place(row(text), end), text)

        source = random.Random(1)
        for text in texts:
            same(text)
            for cut in range(len(text)):
                same(text[:cut])
                for sign in " \n-x5":
                    same(text[:cut] + sign + text[cut + 1:])
            for number in range(1500):
                same(changed(source, text))

    def test_skies(self):
        self.hold(SKIES, (SKY, BIG_SKY), read_sky)

    def test_ports(self):
        self.hold(PORTS, ("level 0\n", PORT, "level -12.1234\nwave ABCDEFG 12.3456 123.456\n"), read_port, {})

    def test_tables(self):
        self.hold(TABLES, (lesser(), BIG_LESSER, stream()), read_table)

    def test_every_byte_behind_each_place(self):
        """Behind each place of a text only bytes of the grammar go on, of all 256."""
        for grammar, text, reader, more in ((SKIES, SKY, read_sky, ()), (PORTS, PORT, read_port, ({},)),
                                            (TABLES, BIG_LESSER, read_table, ())):
            made = Automaton()
            end = grammar(made, made.start)
            for cut in range(0, len(text), 3):
                for byte in range(256):
                    told = row(text[:cut]) + [byte]
                    found = fault(reader, told, *more)
                    place = found[1] if found is not None and found[0] == 1 else None
                    self.assertEqual(place, made.place(told, end), told)


if __name__ == "__main__":
    unittest.main()
