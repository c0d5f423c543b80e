import unittest

from tests.helper import (FLAT, PORT, SKY, ask, entry, find, joined, last, lesser, load, port, row, save_of, saved,
                          sky_of_length, standing, stream, tell)

SKY_TOLD = (1, row(SKY))
POR = (2, port("Por", FLAT))
WAVES = (2, port("P", PORT))
LES = (3, row(lesser()))
STR = (3, row(stream("Str", "P")))
BOOK = [SKY_TOLD, POR, WAVES, LES, STR]
TELLS = [tell(kind, payload) for kind, payload in BOOK]
OTHER = [tell(1, "angle z 0 0\nwave Z z\n"), tell(2, port("Old", "level 1\nwave Z 1 1\n")),
         tell(2, port("Por", "level 2\n")), tell(3, lesser("Les", "Old")), tell(3, lesser("Elder", "Old"))]
NAMES = ("Por", "P", "Les", "Str", "Old", "Elder", "", "Nix")


class LoadTest(unittest.TestCase):
    def loaded(self, before, told, calls):
        """What is told is a book: the one that these calls make."""
        self.assertEqual(last(*before, load(told)), [0])
        self.assertEqual(standing(before + [load(told)]), standing(calls))
        for name in NAMES:
            self.assertEqual(last(*before, load(told), find(name)), last(*calls, find(name)))

    def refused(self, told):
        """What is told is no book, for an empty object and for two that aren't."""
        for before in ([], TELLS, OTHER):
            self.assertEqual(last(*before, load(told)), [-5])
            self.assertEqual(standing(before + [load(told)]), standing(before))


class Books(LoadTest):
    def test_the_mark_alone(self):
        self.loaded([], "TDB1", [])
        self.loaded(TELLS, "TDB1", [])

    def test_what_save_told(self):
        for count in range(len(TELLS) + 1):
            told = save_of(TELLS[:count])
            self.loaded([], told, TELLS[:count])
            self.assertEqual(save_of([load(told)]), told)

    def test_on_a_book_that_is_not_empty(self):
        self.loaded(OTHER, save_of(TELLS), TELLS)
        self.loaded(TELLS, save_of(OTHER), OTHER)
        self.loaded(TELLS, save_of(TELLS), TELLS)

    def test_two_in_a_row(self):
        self.loaded([load(save_of(OTHER))], save_of(TELLS), TELLS)
        self.loaded([load(save_of(TELLS)), load([])], save_of(OTHER), OTHER)

    def test_a_book_where_some_were_replaced_or_went(self):
        calls = TELLS + [tell(2, port("Por", "level 7\n")), tell(4, "Str"), tell(4, "P"), tell(1, ""),
                         tell(3, lesser("P", "Por")), tell(4, "Les"), tell(*LES)]
        self.assertEqual([answer[0] for answer in ask(*calls)], [0] * len(calls))
        self.loaded(OTHER, save_of(calls), calls)

    def test_other_orders_of_ports_and_of_tables_are_other_books(self):
        told = [SKY_TOLD, WAVES, POR, STR, LES]
        self.loaded([], saved(*told), [tell(kind, payload) for kind, payload in told])

    def test_a_full_book(self):
        calls = [tell(1, SKY)] + [tell(2, port(f"P{i}", FLAT)) for i in range(16)]
        calls += [tell(3, lesser(f"L{i}", f"P{i % 16}")) for i in range(32)]
        self.loaded([], save_of(calls), calls)
        self.assertEqual(ask(load(save_of(calls)), tell(2, port("Q", FLAT)), tell(3, lesser("M", "P0"))),
                         [[0], [-8], [-8]])

    def test_long_texts(self):
        for length, answer in ((4096, 0), (4097, -5)):
            self.assertEqual(last(load(saved((1, row(sky_of_length(length)))))), [answer])


class Behind(LoadTest):
    """The object is the loaded book from now on: what it takes and refuses goes by that."""

    def answered(self, kind, payload, number):
        for calls in (TELLS, OTHER + [load(save_of(TELLS))]):
            self.assertEqual(last(*calls, tell(kind, payload))[0], number)

    def test_the_loaded_sky_holds(self):
        self.answered(2, port("New", PORT), 0)
        self.answered(2, port("New", "level 0\nwave Z 1 1\n"), -6)

    def test_the_loaded_ports_hold(self):
        self.answered(1, "", -9)
        self.answered(1, SKY + "sum More M2\n", 0)
        self.answered(3, lesser("New", "Por"), 0)
        self.answered(3, lesser("New", "Old"), -3)
        self.answered(3, lesser("P", "Por"), -9)
        self.answered(3, lesser("Old", "Por"), 0)

    def test_the_loaded_tables_hold(self):
        self.answered(4, "Por", -9)
        self.answered(4, "Les", 0)
        self.answered(4, "Elder", -3)
        self.answered(2, port("Str", FLAT), -9)
        self.answered(2, port("Elder", FLAT), 0)

    def test_a_loaded_book_goes_on(self):
        more = [tell(4, "Les"), tell(2, port("New", FLAT)), tell(3, lesser("Les", "New")), tell(4, "Por")]
        self.assertEqual(standing([load(save_of(TELLS))] + more), standing(TELLS + more))
        told = save_of(TELLS)
        self.assertEqual(standing([load(told)] + more + [load(told)]), standing(TELLS))


class Refused(LoadTest):
    def test_no_bytes(self):
        self.refused([])

    def test_the_mark_cut_short(self):
        for mark in ("T", "TD", "TDB"):
            self.refused(mark)

    def test_another_mark(self):
        for mark in ("TDB0", "TDB2", "tdb1", "1BDT", "XDB1", "TXB1", "TDX1", "\0\0\0\0", " TDB", ""):
            self.refused(mark)
            self.refused(row(mark) + save_of(TELLS)[4:])
        self.refused("TDB1TDB1")
        self.refused("TDB1\n")

    def test_a_byte_more(self):
        told = save_of(TELLS)
        for byte in (0, 1, 2, 10, 84, 255):
            self.refused(told + [byte])
            self.refused([byte] + told)
            self.refused(row("TDB1") + [byte])
            self.refused(told[:4] + [byte] + told[4:])
        for place in range(len(told) + 1):
            self.assertEqual(last(load(told[:place] + [0] + told[place:])), [-5])

    def test_a_byte_fewer(self):
        told = save_of(TELLS)
        self.refused(told[:-1])
        self.refused(told[1:])
        for place in range(len(told)):
            self.assertEqual(last(load(told[:place] + told[place + 1:])), [-5])

    def test_cut_at_each_place(self):
        told = save_of(TELLS)
        ends = [len(saved(*BOOK[:count])) for count in range(len(BOOK) + 1)]
        for cut in range(len(told) + 1):
            # Cut behind an entry, they're the saved bytes of a lesser book.
            self.assertEqual(last(load(told[:cut])), [0 if cut in ends else -5])

    def test_each_bit_turned(self):
        told = save_of(TELLS[:4])
        for place in range(len(told)):
            for bit in range(8):
                turned = told[:place] + [told[place] ^ 1 << bit] + told[place + 1:]
                self.assertEqual(last(load(turned)), [-5], (place, bit))

    def test_a_bit_turned_leaves_the_object_as_it_was(self):
        told = save_of(TELLS)
        for place in list(range(0, len(told), 29)) + [len(told) - 1]:
            self.refused(told[:place] + [told[place] ^ 16] + told[place + 1:])

    def test_an_entry_that_is_not_taken(self):
        for kind, payload in ((1, row("x")), (1, []), (2, port("Q", "level")), (2, port("Les", FLAT)), (2, []),
                              (3, row(lesser("A", "Nix"))), (3, row(lesser("P", "Por"))), (3, []), (4, row("Nix")),
                              (4, row("Por"))):
            self.refused(saved(*BOOK, (kind, payload)))
            self.refused(saved(*BOOK[:3], (kind, payload), *BOOK[3:]))
        self.refused(saved(WAVES))

    def test_kinds_beyond(self):
        for kind in (0, 5, 255):
            self.refused(saved((kind, row(SKY))))
            self.refused(saved(*BOOK, (kind, [])))

    def test_more_than_fit(self):
        ports = [(2, port(f"P{i}", FLAT)) for i in range(17)]
        self.refused(saved(*ports))
        self.loaded([], saved(*ports[:16]), [tell(kind, payload) for kind, payload in ports[:16]])
        self.refused(saved(ports[0], *[(3, row(lesser(f"L{i}", "P0"))) for i in range(33)]))

    def test_another_order(self):
        self.refused(saved(POR, SKY_TOLD))
        self.refused(saved(SKY_TOLD, POR, LES, WAVES))
        self.refused(saved(LES, POR))
        self.refused(saved(POR, LES, SKY_TOLD))
        for i in range(len(BOOK)):
            for j in range(i):
                if BOOK[i][0] != BOOK[j][0]:
                    turned = list(BOOK)
                    turned[i], turned[j] = turned[j], turned[i]
                    self.refused(saved(*turned))

    def test_a_sky_of_an_empty_text(self):
        self.refused(saved((1, [])))
        self.refused(saved((1, []), POR))
        self.refused(saved((1, []), *BOOK))
        self.refused(saved(POR, (1, [])))

    def test_two_skies(self):
        self.refused(saved(SKY_TOLD, SKY_TOLD))
        self.refused(saved((1, row("angle a 0 0\n")), SKY_TOLD))
        self.refused(saved(SKY_TOLD, (1, [])))

    def test_a_name_gone(self):
        self.refused(saved(POR, (4, row("Por"))))
        self.refused(saved(*BOOK, (4, row("Les"))))
        self.refused(saved(POR, (4, row("Por")), POR))
        self.refused(saved((4, row("Por"))))

    def test_a_port_or_a_table_told_twice(self):
        self.refused(saved(POR, POR))
        self.refused(saved((2, port("Por", "level 1\n")), POR))
        self.refused(saved(SKY_TOLD, POR, WAVES, POR))
        self.refused(saved(POR, LES, LES))
        self.refused(saved(POR, (3, row(stream("Les"))), LES))
        self.refused(saved(*BOOK, LES))

    def test_a_journal_without_its_mark(self):
        self.refused(joined([entry(kind, payload) for kind, payload in BOOK]))
        self.refused(entry(1, []))

    def test_as_long_as_it_may_be(self):
        self.refused([84] * 29900)
        self.refused((row("TDB1") + entry(1, []) * 3322)[:29900])


if __name__ == "__main__":
    unittest.main()
