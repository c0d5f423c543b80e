import unittest

from tests.helper import (FLAT, PORT, SKY, entry, joined, last, lesser, load, play, port, row, save, saved, size,
                          sky_of_length, standing, stream, tell)

POR = (2, port("Por", FLAT))
WAVES = (2, port("P", PORT))
LES = (3, row(lesser()))
STR = (3, row(stream("Str", "P")))


class Save(unittest.TestCase):
    def made(self, told, entries):
        """Behind what is told, a book saves these entries, whether told or played; its size tells their length."""
        expected = saved(*entries)
        for calls in ([tell(kind, payload) for kind, payload in told],
                      [play(entry(kind, payload)) for kind, payload in told],
                      [play(joined([entry(kind, payload) for kind, payload in told]))]):
            self.assertEqual(last(*calls, save()), [0, len(expected)] + expected)
            self.assertEqual(last(*calls, size())[3], len(expected))

    def test_an_empty_book(self):
        self.assertEqual(last(save()), [0, 4, 84, 68, 66, 49])
        self.made([], [])

    def test_a_book_that_is_empty_again(self):
        self.made([(1, [])], [])
        self.made([(1, row(SKY)), (1, [])], [])
        self.made([POR, (4, row("Por"))], [])
        self.made([POR, LES, (4, row("Les")), (4, row("Por"))], [])

    def test_a_sky_alone(self):
        self.made([(1, row(SKY))], [(1, row(SKY))])
        self.made([(1, row(SKY)), (1, row("angle a 0 0\n"))], [(1, row("angle a 0 0\n"))])
        longest = row(sky_of_length(4096))
        self.made([(1, longest)], [(1, longest)])

    def test_a_port_alone(self):
        expected = list(b"TDB1" b"\x02" b"\x0c\x00\x00\x00" b"\x03Porlevel 0\n")
        self.assertEqual(last(tell(*POR), save())[2:-4], expected)
        self.made([POR], [POR])

    def test_ports_and_tables(self):
        self.made([(1, row(SKY)), POR, WAVES, LES, STR], [(1, row(SKY)), POR, WAVES, LES, STR])
        self.made([(1, row(SKY)), WAVES, POR, STR, LES], [(1, row(SKY)), WAVES, POR, STR, LES])

    def test_the_sky_goes_before_ports_and_these_before_tables(self):
        self.made([POR, LES, (1, row(SKY)), WAVES, STR], [(1, row(SKY)), POR, WAVES, LES, STR])

    def test_one_that_was_replaced_keeps_its_place(self):
        anew = (2, port("Por", "level 7\n"))
        self.made([(1, row(SKY)), POR, WAVES, anew], [(1, row(SKY)), anew, WAVES])
        anew = (3, row(stream("Les", "Por")))
        self.made([(1, row(SKY)), POR, WAVES, LES, STR, anew], [(1, row(SKY)), POR, WAVES, anew, STR])

    def test_one_that_went_and_came_again_stands_last(self):
        ports = [(2, port(name, FLAT)) for name in ("A", "B", "C")]
        self.made(ports + [(4, row("A")), ports[0]], [ports[1], ports[2], ports[0]])
        tables = [(3, row(lesser(name, "C"))) for name in ("D", "E", "F")]
        self.made(ports + tables + [(4, row("E")), tables[1]], ports + [tables[0], tables[2], tables[1]])

    def test_one_that_went_leaves_no_trace(self):
        self.made([POR, (2, port("Q", FLAT)), LES, (4, row("Les")), (4, row("Por"))], [(2, port("Q", FLAT))])

    def test_a_full_book(self):
        told = [(1, row(SKY))] + [(2, port(f"P{i}", FLAT)) for i in range(16)]
        told += [(3, row(lesser(f"L{i}", f"P{i % 16}"))) for i in range(32)]
        self.made(told, told)

    def test_what_was_refused_is_not_saved(self):
        calls = [tell(*POR), tell(2, port("Q", "level")), tell(3, lesser("A", "B")), tell(1, "x"), load([1])]
        self.assertEqual(last(*calls, save())[2:], saved(POR))

    def test_changes_nothing(self):
        calls = [tell(1, SKY), tell(*POR), tell(*LES)]
        self.assertEqual(standing(calls + [save(), save()]), standing(calls))
        self.assertEqual(last(*calls, save(), save()), last(*calls, save()))


if __name__ == "__main__":
    unittest.main()
