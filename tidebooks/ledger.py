"""The book: what stands in it, which entries it takes, and what it tells."""

from tidebooks.entry import MOST_PAYLOAD, entry_at, entry_bytes, entry_length, is_kind
from tidebooks.port import read_port
from tidebooks.scan import Fault, is_name
from tidebooks.sky import read_sky
from tidebooks.table import read_table

SKY = 1
PORT = 2
TABLE = 3

TAKEN = 0
NO_KIND = -1
TOO_LONG = -2
NOT_THERE = -3
NONE_SUCH = -4
NOT_IN_FORM = -6
FULL = -8
HINDERED = -9

MOST_TEXT = 4096
MOST_PORTS = 16
MOST_TABLES = 32

# "TDB1", which saved bytes begin with.
MARK_LENGTH = 4


class Port:
    """A port's text, and the names of its waves, in a dict."""

    def __init__(self, row, names):
        self.row = row
        self.names = names

    def stands_over(self, known):
        """Whether a text that's right over one sky is so over one with these waves and sums."""
        return all([name in known for name in self.names])


class Table:
    """A table's text, and the name of the port that it is of."""

    def __init__(self, row, of):
        self.row = row
        self.of = of


class Book:
    """Ports and tables by their names: a dict keeps the order in which these came in."""

    def __init__(self):
        self.sky = []
        self.known = {}
        self.ports = {}
        self.tables = {}

    def tell(self, kind, payload):
        if not is_kind(kind):
            return [NO_KIND]
        if len(payload) > MOST_PAYLOAD:
            return [TOO_LONG]
        taken = self.take(kind, payload)
        if taken != TAKEN:
            return [taken]
        return [TAKEN] + counted(entry_bytes(kind, payload))

    def play(self, journal):
        taken = 0
        place = 0
        entry = entry_at(journal, place)
        while entry is not None and self.take(entry.kind, entry.payload) == TAKEN:
            taken += 1
            place = entry.end
            entry = entry_at(journal, place)
        return [TAKEN, taken, place]

    def size(self):
        return [TAKEN, len(self.ports), len(self.tables), self.saved_length()]

    def text(self, kind, i):
        if kind == SKY and i == 0:
            return [TAKEN] + counted([]) + counted(self.sky)
        if kind == PORT and i < len(self.ports):
            return named_text(self.ports, i)
        if kind == TABLE and i < len(self.tables):
            return named_text(self.tables, i)
        return [NONE_SUCH]

    def saved_length(self):
        length = MARK_LENGTH
        if self.sky:
            length += entry_length(len(self.sky))
        for name in self.ports:
            length += entry_length(1 + len(name) + len(self.ports[name].row))
        for name in self.tables:
            length += entry_length(len(self.tables[name].row))
        return length

    def take(self, kind, payload):
        """Takes an entry of a kind from 1 to 4: gives TAKEN, or why not, with nothing changed."""
        if kind == SKY:
            return self.take_sky(payload)
        if kind == PORT:
            return self.take_port(payload)
        if kind == TABLE:
            return self.take_table(payload)
        return self.take_gone(payload)

    def take_sky(self, row):
        if len(row) > MOST_TEXT:
            return NOT_IN_FORM
        try:
            known = read_sky(row)
        except Fault:
            return NOT_IN_FORM
        if not all([self.ports[name].stands_over(known) for name in self.ports]):
            return HINDERED
        self.sky = row
        self.known = known
        return TAKEN

    def take_port(self, payload):
        if not payload or payload[0] >= len(payload):
            return NOT_IN_FORM
        name = tuple(payload[1:1 + payload[0]])
        row = payload[1 + payload[0]:]
        if not is_name(name) or len(row) > MOST_TEXT:
            return NOT_IN_FORM
        try:
            names = read_port(row, self.known)
        except Fault:
            return NOT_IN_FORM
        if name in self.tables:
            return HINDERED
        if name not in self.ports and len(self.ports) == MOST_PORTS:
            return FULL
        self.ports[name] = Port(row, names)
        return TAKEN

    def take_table(self, row):
        if len(row) > MOST_TEXT:
            return NOT_IN_FORM
        try:
            heading = read_table(row)
        except Fault:
            return NOT_IN_FORM
        if heading.of not in self.ports:
            return NOT_THERE
        if heading.name in self.ports:
            return HINDERED
        if heading.name not in self.tables and len(self.tables) == MOST_TABLES:
            return FULL
        self.tables[heading.name] = Table(row, heading.of)
        return TAKEN

    def take_gone(self, payload):
        name = tuple(payload)
        if not is_name(name):
            return NOT_IN_FORM
        if name in self.tables:
            self.tables.pop(name)
            return TAKEN
        if name not in self.ports:
            return NOT_THERE
        if any([self.tables[other].of == name for other in self.tables]):
            return HINDERED
        self.ports.pop(name)
        return TAKEN


def counted(row):
    """A text as it's told: how many bytes it has, then these."""
    return [len(row)] + list(row)


def named_text(shelf, i):
    """Tells the name and the text of the i-th of these ports or tables."""
    name = list(shelf)[i]
    return [TAKEN] + counted(name) + counted(shelf[name].row)
