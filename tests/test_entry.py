import unittest
import zlib

from tests.helper import entry, row
from tidebooks.entry import check_of, entry_at, entry_of, low_first, number_from


class Checks(unittest.TestCase):
    def test_the_check_that_the_document_names(self):
        self.assertEqual(check_of(row("123456789")), 0xCBF43926)

    def test_other_checks(self):
        for told in ([], [0], [255], [0, 0, 0, 0], list(range(256)), [255] * 1000):
            self.assertEqual(check_of(told), zlib.crc32(bytes(told)))


class Entries(unittest.TestCase):
    def test_bytes(self):
        self.assertEqual(entry_of(1, []).row, [1, 0, 0, 0, 0] + low_first(zlib.crc32(b"\1\0\0\0\0")))
        for kind in (1, 2, 3, 4):
            for payload in ([], [0], row("A"), [7] * 255, [7] * 256, [255] * 4104):
                made = entry_of(kind, payload)
                self.assertEqual((made.kind, made.payload, made.row), (kind, payload, entry(kind, payload)))

    def test_the_lowest_byte_first(self):
        self.assertEqual(low_first(0x01020304), [4, 3, 2, 1])
        self.assertEqual(number_from([4, 3, 2, 1]), 0x01020304)
        self.assertEqual(entry_of(1, [9] * 0x0102).row[:5], [1, 2, 1, 0, 0])

    def test_read_again(self):
        for payload in ([], row("A"), [255] * 4104):
            found = entry_at([9, 9] + entry(3, payload) + [9], 2)
            self.assertEqual((found.kind, found.payload, found.row), (3, payload, entry(3, payload)))

    def test_none(self):
        for journal in ([], [1, 0, 0, 0], entry(0, []), entry(5, []), entry(255, [1]), entry(1, [0] * 4105),
                        entry(1, [1, 2])[:-1], [1, 255, 255, 255, 255] + [0] * 9):
            self.assertIsNone(entry_at(journal, 0))


if __name__ == "__main__":
    unittest.main()
