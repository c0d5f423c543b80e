"""What the tests share: how calls are written and answers read, and texts that are right."""

import struct
import zlib

from tidebooks.book import answers
from tidebooks.scan import Fault

HOURS = ("-6", "-5", "-4", "-3", "-2", "-1", "0", "+1", "+2", "+3", "+4", "+5", "+6")

SKY = ("angle a 0 28.984\n"
       "angle b 12.5 -0.041\n"
       "wave M2 2 a - b\n"
       "wave S2 a turn 90 factor 0.5 b shift -3.25 a + b\n"
       "sum MS4 M2 + S2\n")
PORT = "level -1.25\nwave M2 1.2345 359.999\nwave MS4 0.1 7\n"
FLAT = "level 0\n"


def row(text):
    """The bytes of a text, as a list."""
    return list(text.encode("latin-1")) if isinstance(text, str) else list(text)


def fault(reader, text, *more):
    """A text's first fault as (kind, place), or None."""
    try:
        reader(row(text), *more)
    except Fault as e:
        return (e.kind, e.place)
    return None


def lesser(name="Les", of="Por", high="0000 +0 0600 -10", low="0100 +5 0700 +999", rise=" 0 0 1 1"):
    return f"lesser {name} of {of}\nhigh {high}\nlow {low}\nrise{rise}\n"


def stream(name="Str", of="Por", ranges="1.5 3.25", hours=HOURS, direction="090", rates="1.5 2"):
    lines = [f"hour {hour} {direction} {rates}\n" for hour in hours]
    return f"stream {name} of {of}\nranges {ranges}\n" + "".join(lines)


def port(name, text):
    """The payload of an entry of kind 2."""
    return [len(name)] + row(name) + row(text)


def zero(width):
    """A NUMBER of this many signs, 1 to 14, that is 0."""
    return "0" * width if width < 4 else "0." + "0" * (width - 2)


def sky_of_length(length):
    """A right sky's text of this many bytes, from 64 on: lines of 52 bytes, the last one with longer numbers."""
    text = "angle a 0 0\n"
    left = length - len(text)
    for i in range(left // 52 - 1):
        text += f"wave w{i:03} a" + " shift 0 a" * 4 + "\n"
    more = left % 52
    text += "wave last a"
    for i in range(4):
        longer = min(more, 13)
        more -= longer
        text += f" shift {zero(1 + longer)} a"
    return text + "\n"


def tell(kind, payload):
    return [0, kind, len(payload)] + row(payload)


def play(journal):
    return [1, len(journal)] + list(journal)


def size():
    return [2]


def text(kind, i):
    return [3, kind, i]


def find(name):
    return [4, len(name)] + row(name)


def save():
    return [5]


def load(saved):
    return [6, len(saved)] + row(saved)


def ask(*calls):
    """What is answered to each of these calls on one new book."""
    numbers = answers([number for call in calls for number in call])
    answered = []
    while numbers:
        count = numbers[0]
        answered.append(numbers[1:1 + count])
        numbers = numbers[1 + count:]
    return answered


def last(*calls):
    return ask(*calls)[-1]


def entry(kind, payload):
    """An entry's bytes, made with Python's own CRC-32."""
    head = bytes([kind]) + struct.pack("<I", len(payload)) + bytes(row(payload))
    return list(head + struct.pack("<I", zlib.crc32(head)))


def joined(entries):
    return [byte for told in entries for byte in told]


def saved(*entries):
    """Saved bytes of these entries, each as its kind and payload."""
    return row("TDB1") + joined([entry(kind, payload) for kind, payload in entries])


def save_of(calls):
    """The bytes that a book saves behind these calls."""
    return last(*calls, save())[2:]


def standing(calls):
    """All that a book tells of itself behind these calls."""
    asked = [size(), save(), text(1, 0)]
    asked += [text(2, i) for i in range(17)] + [text(3, i) for i in range(33)]
    return ask(*calls, *asked)[len(calls):]


def names(calls, kind):
    """The names of the ports (2) or tables (3) that stand behind these calls, in order."""
    told = [answer for answer in ask(*calls, *[text(kind, i) for i in range(33)])[len(calls):] if answer[0] == 0]
    return ["".join(map(chr, answer[2:2 + answer[1]])) for answer in told]


def saved_length(sky, ports, tables):
    """How many bytes a book of these has saved, ports as (name, text)."""
    length = 4 + (9 + len(sky) if sky else 0)
    length += sum([9 + 1 + len(name) + len(told) for name, told in ports])
    return length + sum([9 + len(told) for told in tables])
