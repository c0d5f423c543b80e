import unittest

from tests.helper import FLAT, PORT, SKY, ask, entry, joined, last, lesser, play, port, row, standing, stream, tell

TOLD = [(1, row("")), (1, row(SKY)), (2, port("Por", FLAT)), (3, row(lesser())), (2, port("P", PORT)),
        (3, row(stream())), (4, row("Les"))]
ENTRIES = [entry(kind, payload) for kind, payload in TOLD]
TELLS = [tell(kind, payload) for kind, payload in TOLD]


class Play(unittest.TestCase):
    def good(self, before, journal, count, length):
        self.assertEqual(last(*before, play(journal)), [0, count, length])

    def test_an_empty_journal(self):
        self.good([], [], 0, 0)
        self.good([tell(1, SKY)], [], 0, 0)
        self.assertEqual(standing([tell(1, SKY), play([])]), standing([tell(1, SKY)]))

    def test_a_whole_journal(self):
        journal = joined(ENTRIES)
        self.good([], journal, len(ENTRIES), len(journal))
        self.assertEqual(standing([play(journal)]), standing(TELLS))

    def test_what_tell_tells_is_the_journal(self):
        told = joined([answer[2:] for answer in ask(*TELLS)])
        self.assertEqual(told, joined(ENTRIES))

    def test_cut_at_each_byte(self):
        journal = joined(ENTRIES)
        ends = [len(joined(ENTRIES[:count])) for count in range(len(ENTRIES) + 1)]
        stood = [standing(TELLS[:count]) for count in range(len(ENTRIES) + 1)]
        for cut in range(len(journal) + 1):
            count = len([end for end in ends if end <= cut]) - 1
            self.good([], journal[:cut], count, ends[count])
            self.assertEqual(standing([play(journal[:cut])]), stood[count])

    def test_bytes_behind_the_good_part(self):
        journal = joined(ENTRIES)
        for behind in ([0], [1], [255] * 100, list(b"TDB1"), ENTRIES[1][:-1], [1, 0, 0, 0, 0, 0, 0, 0, 0],
                       entry(0, []) + ENTRIES[1], entry(5, []), entry(1, row("x")) + ENTRIES[1]):
            self.good([], journal + behind, len(ENTRIES), len(journal))
            self.assertEqual(standing([play(journal + behind)]), standing(TELLS))

    def test_each_bit_turned(self):
        for index, told in enumerate(ENTRIES):
            before = joined(ENTRIES[:index])
            for place in [0] + list(range(5, len(told))):
                for bit in range(8):
                    turned = told[:place] + [told[place] ^ 1 << bit] + told[place + 1:]
                    self.good([], before + turned + joined(ENTRIES[index + 1:]), index, len(before))

    def test_a_bit_turned_changes_nothing_behind_it(self):
        for place in (0, 5, 12, -1):
            turned = list(ENTRIES[3])
            turned[place] ^= 1
            journal = joined(ENTRIES[:3]) + turned + joined(ENTRIES[4:])
            self.assertEqual(standing([play(journal)]), standing(TELLS[:3]))

    def test_an_entry_that_is_not_taken_amid_others(self):
        for kind, payload in ((1, row("x")), (2, port("P", "")), (2, port("Les", FLAT)), (3, row(lesser("A", "Q"))),
                              (3, row(lesser("Por", "Por"))), (4, row("Q")), (4, row("Por")), (4, [])):
            journal = joined(ENTRIES[:4])
            self.good([], journal + entry(kind, payload) + joined(ENTRIES[4:]), 4, len(journal))
            self.assertEqual(standing([play(journal + entry(kind, payload) + joined(ENTRIES[4:]))]),
                             standing(TELLS[:4]))

    def test_the_17th_port_and_the_33rd_table(self):
        ports = [entry(2, port(f"P{i}", FLAT)) for i in range(17)]
        self.good([], joined(ports), 16, len(joined(ports[:16])))
        tables = [entry(3, lesser(f"L{i}", "P0")) for i in range(33)]
        journal = joined(ports[:1] + tables)
        self.good([], journal, 33, len(journal) - len(tables[32]))

    def test_kinds_and_lengths(self):
        for kind in (0, 5, 6, 255):
            self.good([], entry(kind, row("A")), 0, 0)
        self.good([], entry(1, [10] * 4105), 0, 0)
        self.good([], entry(1, [10] * 4104), 0, 0)
        self.good([], [1, 255, 255, 255, 255, 0, 0, 0, 0], 0, 0)
        self.good([], [1, 0, 0, 0, 1] + entry(1, [])[5:], 0, 0)

    def test_on_a_book_that_stands(self):
        gone = entry(4, row("Por"))
        self.good([], gone, 0, 0)
        self.good([tell(2, port("Por", FLAT))], gone, 1, len(gone))
        self.good([tell(2, port("Por", FLAT))], gone + gone, 1, len(gone))
        self.good([play(ENTRIES[2]), play(ENTRIES[3])], gone, 0, 0)

    def test_saved_bytes_are_no_journal_with_their_mark(self):
        self.good([], list(b"TDB1") + ENTRIES[1], 0, 0)

    def test_as_long_as_it_may_be(self):
        journal = entry(1, []) * 3322
        self.good([tell(2, port(f"P{i}", FLAT)) for i in range(6)], journal, 3322, 29898)


if __name__ == "__main__":
    unittest.main()
