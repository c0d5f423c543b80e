"""Entries as bytes: how one is written, and how one is read in a journal."""

FIRST_KIND = 1
LAST_KIND = 4
MOST_PAYLOAD = 4104

# The bytes of an entry before its payload (kind and p) and behind it (the check).
HEAD_LENGTH = 5
CHECK_LENGTH = 4

# 0x04C11DB7 with its 32 bits the other way round, as bits come from the lowest.
POLYNOMIAL = 0xEDB88320
ALL_ONES = 0xFFFFFFFF


class Entry:
    """An entry: its kind, its payload, and all its bytes."""

    def __init__(self, kind, payload, row):
        self.kind = kind
        self.payload = payload
        self.row = row


def check_of(row):
    """The CRC-32 of these bytes."""
    check = ALL_ONES
    for byte in row:
        check = check ^ byte
        for bit in range(8):
            if (check & 1) == 1:
                check = (check >> 1) ^ POLYNOMIAL
            else:
                check = check >> 1
    return check ^ ALL_ONES


def low_first(number):
    return [(number >> shift) & 255 for shift in (0, 8, 16, 24)]


def number_from(row):
    number = 0
    for byte in reversed(row):
        number = number * 256 + byte
    return number


def entry_of(kind, payload):
    row = [kind] + low_first(len(payload)) + payload
    return Entry(kind, payload, row + low_first(check_of(row)))


def is_kind(kind):
    return FIRST_KIND <= kind <= LAST_KIND


def entry_at(row, place):
    """Gives the Entry at this place of a journal, or None if none that's whole and right in itself stands there."""
    behind_head = place + HEAD_LENGTH
    if behind_head > len(row) or not is_kind(row[place]):
        return None
    length = number_from(row[place + 1:behind_head])
    behind_payload = behind_head + length
    end = behind_payload + CHECK_LENGTH
    if length > MOST_PAYLOAD or end > len(row):
        return None
    if number_from(row[behind_payload:end]) != check_of(row[place:behind_payload]):
        return None
    return Entry(row[place], row[behind_head:behind_payload], row[place:end])
