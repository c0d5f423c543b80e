"""The calls on one book, handed in as whole numbers and answered as such."""

from tidebooks.ledger import Book


class Reader:
    """The numbers of the calls, and the place reached in them."""

    def __init__(self, calls):
        self.calls = calls
        self.place = 0

    def at_end(self):
        return self.place == len(self.calls)

    def read_number(self):
        self.place += 1
        return self.calls[self.place - 1]

    def read_row(self):
        """Gives a row that has its length before it, as a list of its own."""
        length = self.read_number()
        self.place += length
        return self.calls[self.place - length:self.place]


def tell(book, reader):
    kind = reader.read_number()
    return book.tell(kind, reader.read_row())


def play(book, reader):
    return book.play(reader.read_row())


def size(book, reader):
    return book.size()


def text(book, reader):
    kind = reader.read_number()
    return book.text(kind, reader.read_number())


def find(book, reader):
    return book.where(tuple(reader.read_row()))


def save(book, reader):
    return book.save()


def load(book, reader):
    return book.load(reader.read_row())


CALLS = (tell, play, size, text, find, save, load)


def answers(calls):
    """Gives, for each call in order, how many numbers are answered, and these."""
    book = Book()
    reader = Reader(calls)
    answered = []
    while not reader.at_end():
        answer = CALLS[reader.read_number()](book, reader)
        answered.append(len(answer))
        answered.extend(answer)
    return answered
