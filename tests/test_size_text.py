import unittest

from tests.helper import (FLAT, PORT, SKY, entry, last, lesser, play, port, row, saved_length, size, sky_of_length,
                          stream, tell, text)

PORTS = [(f"P{i}", PORT if i % 2 else FLAT) for i in range(16)]
TABLES = [stream(f"T{i}", f"P{i % 16}") if i % 8 == 0 else lesser(f"T{i}", f"P{i % 16}") for i in range(32)]
FULL = [tell(1, SKY)] + [tell(2, port(name, told)) for name, told in PORTS] + [tell(3, told) for told in TABLES]
BEYOND = (16, 17, 32, 33, 255, 256, 65536, 4294967295)


class Size(unittest.TestCase):
    def test_of_an_empty_book(self):
        self.assertEqual(last(size()), [0, 0, 0, 4])
        self.assertEqual(last(tell(1, ""), size()), [0, 0, 0, 4])
        self.assertEqual(last(tell(1, SKY), tell(1, ""), size()), [0, 0, 0, 4])

    def test_each_thing_that_stands(self):
        self.assertEqual(last(tell(1, SKY), size()), [0, 0, 0, 4 + 9 + len(SKY)])
        self.assertEqual(last(tell(2, port("Por", FLAT)), size()), [0, 1, 0, 4 + 9 + 1 + 3 + 8])
        self.assertEqual(last(tell(2, port("Por", FLAT)), tell(3, lesser()), size()),
                         [0, 1, 1, 4 + 21 + 9 + len(lesser())])

    def test_of_a_full_book(self):
        self.assertEqual(last(*FULL, size()), [0, 16, 32, saved_length(SKY, PORTS, TABLES)])

    def test_what_was_replaced_or_went_does_not_count(self):
        calls = [tell(1, sky_of_length(4096)), tell(1, SKY), tell(2, port("Por", PORT)), tell(2, port("Por", FLAT)),
                 tell(3, lesser()), tell(4, "Les"), tell(4, "Nix")]
        self.assertEqual(last(*calls, size()), [0, 1, 0, saved_length(SKY, [("Por", FLAT)], [])])

    def test_behind_a_played_journal(self):
        self.assertEqual(last(play(entry(1, SKY) + entry(2, port("P", PORT)) + [1]), size()),
                         [0, 1, 0, saved_length(SKY, [("P", PORT)], [])])


class Text(unittest.TestCase):
    def told(self, before, kind, i, name, told):
        self.assertEqual(last(*before, text(kind, i)), [0, len(name)] + row(name) + [len(told)] + row(told))

    def test_of_an_empty_book(self):
        self.told([], 1, 0, "", "")
        for kind in (0, 2, 3, 4, 5, 4294967295):
            for i in (0, 1, 4294967295):
                self.assertEqual(last(text(kind, i)), [-4])

    def test_of_a_full_book(self):
        self.told(FULL, 1, 0, "", SKY)
        for i, (name, told) in enumerate(PORTS):
            self.told(FULL, 2, i, name, told)
        for i, told in enumerate(TABLES):
            self.told(FULL, 3, i, f"T{i}", told)

    def test_numbers_beyond_it(self):
        for i in (1,) + BEYOND:
            self.assertEqual(last(*FULL, text(1, i)), [-4])
        for i in BEYOND:
            self.assertEqual(last(*FULL, text(2, i)), [-4])
        for i in BEYOND[2:]:
            self.assertEqual(last(*FULL, text(3, i)), [-4])

    def test_kinds_beyond_it(self):
        for kind in (0, 4, 5, 255, 256, 257, 258, 4294967295):
            for i in (0, 1, 4294967295):
                self.assertEqual(last(*FULL, text(kind, i)), [-4])

    def test_the_order_closes_up_behind_one_that_went(self):
        calls = [tell(2, port(name, FLAT)) for name in ("A", "B", "C")] + [tell(4, "B")]
        self.told(calls, 2, 1, "C", FLAT)
        self.assertEqual(last(*calls, text(2, 2)), [-4])

    def test_a_long_text(self):
        sky = sky_of_length(4096)
        self.told([tell(1, sky)], 1, 0, "", sky)


if __name__ == "__main__":
    unittest.main()
