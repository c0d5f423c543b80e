"""The book: what stands in it, which entries it takes, and what it tells."""

from tidebooks.entry import MOST_PAYLOAD, entry_at, entry_of, is_kind
from tidebooks.port import read_port
from tidebooks.scan import Fault, is_name
from tidebooks.sky import read_sky
from tidebooks.table import read_table

SKY = 1
PORT = 2
TABLE = 3

TAKEN = 0
NO_KIND = -1
TOO_LONG = -2
NOT_THERE = -3
NONE_SUCH = -4
NO_BOOK = -5
NOT_IN_FORM = -6
FULL = -8
HINDERED = -9

MOST_TEXT = 4096
MOST_PORTS = 16
MOST_TABLES = 32

# What saved bytes begin with.
MARK = "TDB1"


class Sky:
    """A sky's text, the names of its waves and sums, in a dict, and what is saved of it."""

    def __init__(self, row, known, entry_row):
        self.row = row
        self.known = known
        self.entry_row = entry_row


class Port:
    """A port's text, the names of its waves, in a dict, and what is saved of it."""

    def __init__(self, row, names, entry_row):
        self.row = row
        self.names = names
        self.entry_row = entry_row

    def stands_over(self, known):
        """Whether a text that's right over one sky is so over one with these waves and sums."""
        return all([name in known for name in self.names])


class Table:
    """A table's text, the name of the port that it is of, and what is saved of it."""

    def __init__(self, row, of, entry_row):
        self.row = row
        self.of = of
        self.entry_row = entry_row


class Book:
    """Ports and tables by their names: a dict keeps the order in which these came in."""

    def __init__(self):
        self.sky = Sky([], {}, [])
        self.ports = {}
        self.tables = {}

    def tell(self, kind, payload):
        if not is_kind(kind):
            return [NO_KIND]
        if len(payload) > MOST_PAYLOAD:
            return [TOO_LONG]
        entry = entry_of(kind, payload)
        taken = self.take(entry)
        if taken != TAKEN:
            return [taken]
        return [TAKEN] + counted(entry.row)

    def play(self, journal):
        taken = 0
        place = 0
        entry = entry_at(journal, place)
        while entry is not None and self.take(entry) == TAKEN:
            taken += 1
            place += len(entry.row)
            entry = entry_at(journal, place)
        return [TAKEN, taken, place]

    def size(self):
        return [TAKEN, len(self.ports), len(self.tables), len(self.saved())]

    def text(self, kind, i):
        if kind == SKY and i == 0:
            return [TAKEN] + counted([]) + counted(self.sky.row)
        if kind == PORT and i < len(self.ports):
            return named_text(self.ports, i)
        if kind == TABLE and i < len(self.tables):
            return named_text(self.tables, i)
        return [NONE_SUCH]

    def where(self, name):
        """Tells on which shelf a name stands, and where there."""
        if name in self.ports:
            return [PORT, list(self.ports).index(name)]
        if name in self.tables:
            return [TABLE, list(self.tables).index(name)]
        return [NONE_SUCH]

    def save(self):
        return [TAKEN] + counted(self.saved())

    def load(self, row):
        loaded = Book()
        loaded.play(row[len(MARK):])
        # A book saves at most what was played of its journal: if it saves the whole row, the journal was good to
        # its end.
        if loaded.saved() != row:
            return [NO_BOOK]
        self.sky = loaded.sky
        self.ports = loaded.ports
        self.tables = loaded.tables
        return [TAKEN]

    def saved(self):
        row = [ord(sign) for sign in MARK]
        row.extend(self.sky.entry_row)
        for port in self.ports.values():
            row.extend(port.entry_row)
        for table in self.tables.values():
            row.extend(table.entry_row)
        return row

    def take(self, entry):
        """Takes an entry of a kind from 1 to 4: gives TAKEN, or why not, with nothing changed."""
        if entry.kind == SKY:
            return self.take_sky(entry)
        if entry.kind == PORT:
            return self.take_port(entry)
        if entry.kind == TABLE:
            return self.take_table(entry)
        return self.take_gone(entry)

    def take_sky(self, entry):
        row = entry.payload
        if len(row) > MOST_TEXT:
            return NOT_IN_FORM
        try:
            known = read_sky(row)
        except Fault:
            return NOT_IN_FORM
        if not all([port.stands_over(known) for port in self.ports.values()]):
            return HINDERED
        # A sky that was told as the empty text stands like one that was never told: nothing of it is saved.
        self.sky = Sky(row, known, entry.row if row else [])
        return TAKEN

    def take_port(self, entry):
        payload = entry.payload
        if not payload or payload[0] >= len(payload):
            return NOT_IN_FORM
        name = tuple(payload[1:1 + payload[0]])
        row = payload[1 + payload[0]:]
        if not is_name(name) or len(row) > MOST_TEXT:
            return NOT_IN_FORM
        try:
            names = read_port(row, self.sky.known)
        except Fault:
            return NOT_IN_FORM
        if name in self.tables:
            return HINDERED
        if name not in self.ports and len(self.ports) == MOST_PORTS:
            return FULL
        self.ports[name] = Port(row, names, entry.row)
        return TAKEN

    def take_table(self, entry):
        row = entry.payload
        if len(row) > MOST_TEXT:
            return NOT_IN_FORM
        try:
            heading = read_table(row)
        except Fault:
            return NOT_IN_FORM
        if heading.of not in self.ports:
            return NOT_THERE
        if heading.name in self.ports:
            return HINDERED
        if heading.name not in self.tables and len(self.tables) == MOST_TABLES:
            return FULL
        self.tables[heading.name] = Table(row, heading.of, entry.row)
        return TAKEN

    def take_gone(self, entry):
        name = tuple(entry.payload)
        if not is_name(name):
            return NOT_IN_FORM
        if name in self.tables:
            self.tables.pop(name)
            return TAKEN
        if name not in self.ports:
            return NOT_THERE
        if any([table.of == name for table in self.tables.values()]):
            return HINDERED
        self.ports.pop(name)
        return TAKEN


def counted(row):
    """A text as it's told: how many bytes it has, then these."""
    return [len(row)] + list(row)


def named_text(shelf, i):
    """Tells the name and the text of the i-th of these ports or tables."""
    name = list(shelf)[i]
    return [TAKEN] + counted(name) + counted(shelf[name].row)
