import unittest

from tests.helper import (FLAT, PORT, SKY, entry, find, joined, last, lesser, load, play, port, row, save_of, standing,
                          stream, tell)

PORTS = [tell(2, port(f"P{i}", FLAT)) for i in range(16)]
TABLES = [tell(3, lesser(f"L{i}", f"P{i % 16}")) for i in range(32)]
STOOD = [tell(1, SKY), tell(2, port("Por", FLAT)), tell(2, port("ABCDEFG", PORT)), tell(3, lesser("Les")),
         tell(3, stream("Str", "ABCDEFG"))]


class Find(unittest.TestCase):
    def found(self, before, name, answer):
        self.assertEqual(last(*before, find(name)), answer)

    def test_a_port(self):
        self.found(STOOD, "Por", [2, 0])
        self.found(STOOD, "ABCDEFG", [2, 1])

    def test_a_table(self):
        self.found(STOOD, "Les", [3, 0])
        self.found(STOOD, "Str", [3, 1])

    def test_each_of_a_full_book(self):
        for i in range(16):
            self.found(PORTS + TABLES, f"P{i}", [2, i])
        for i in range(32):
            self.found(PORTS + TABLES, f"L{i}", [3, i])
        self.found(PORTS + TABLES, "P16", [-4])
        self.found(PORTS + TABLES, "L32", [-4])

    def test_none(self):
        self.found([], "Por", [-4])
        self.found(STOOD, "Nix", [-4])
        for name in ("por", "POR", "Po", "Porr", "ABCDEF", "ABCDEFGH"):
            self.found(STOOD, name, [-4])

    def test_no_bytes(self):
        self.found([], "", [-4])
        self.found(STOOD, "", [-4])

    def test_bytes_that_are_no_name(self):
        for name in (" Por", "Por ", "Por\n", "\0", [255], [3] + row("Por"), [80] * 1000, [0] * 1000):
            self.found([], name, [-4])
            self.found(STOOD, name, [-4])

    def test_names_of_the_sky_are_none_of_the_book(self):
        for name in ("a", "M2", "MS4"):
            self.found(STOOD, name, [-4])

    def test_a_name_that_was_refused(self):
        self.found([tell(2, port("Por", "level"))], "Por", [-4])
        self.found([tell(2, port("Por", FLAT)), tell(3, lesser("Les", "Q"))], "Les", [-4])

    def test_a_name_that_has_gone(self):
        calls = PORTS[:3] + [tell(4, "P1")]
        self.found(calls, "P1", [-4])
        self.found(calls, "P0", [2, 0])
        self.found(calls, "P2", [2, 1])
        calls = PORTS[:1] + [tell(3, lesser(name, "P0")) for name in ("A", "B", "C")] + [tell(4, "A")]
        self.found(calls, "A", [-4])
        self.found(calls, "B", [3, 0])
        self.found(calls, "C", [3, 1])

    def test_a_name_that_came_again(self):
        calls = PORTS[:3] + [tell(4, "P1"), PORTS[1]]
        self.found(calls, "P1", [2, 2])
        self.found(calls, "P2", [2, 1])
        calls = PORTS[:3] + TABLES[:3] + [tell(4, "L0"), TABLES[0]]
        self.found(calls, "L0", [3, 2])
        self.found(calls, "L1", [3, 0])

    def test_a_name_that_came_again_on_the_other_shelf(self):
        calls = PORTS[:3] + [tell(4, "P1"), tell(3, lesser("P1", "P2"))]
        self.found(calls, "P1", [3, 0])
        self.found(calls, "P2", [2, 1])
        self.found(calls + [tell(4, "P1"), PORTS[1]], "P1", [2, 2])

    def test_one_that_was_replaced_keeps_its_place(self):
        self.found(STOOD + [tell(2, port("Por", "level 1\n"))], "Por", [2, 0])
        self.found(STOOD + [tell(3, stream("Les", "ABCDEFG"))], "Les", [3, 0])

    def test_behind_play_and_load(self):
        journal = joined([entry(2, port("Por", FLAT)), entry(3, lesser()), entry(3, stream())])
        self.found([play(journal)], "Str", [3, 1])
        self.found([load(row("TDB1") + journal)], "Str", [3, 1])
        self.found(STOOD + [load(save_of(PORTS[:2]))], "Por", [-4])
        self.found(STOOD + [load(save_of(PORTS[:2]))], "P1", [2, 1])

    def test_changes_nothing(self):
        self.assertEqual(standing(STOOD + [find("Por"), find("Str"), find("Nix"), find("")]), standing(STOOD))


if __name__ == "__main__":
    unittest.main()
