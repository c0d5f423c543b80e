import unittest

from tests.helper import (FLAT, PORT, SKY, ask, entry, last, lesser, names, port, row, saved_length, sky_of_length,
                          standing, stream, tell, text)

POR = tell(2, port("Por", FLAT))
PORTS = [tell(2, port(f"P{i}", FLAT)) for i in range(16)]
TABLES = [tell(3, lesser(f"L{i}", "P0")) for i in range(32)]


class TellTest(unittest.TestCase):
    def taken(self, before, kind, payload):
        told = entry(kind, payload)
        self.assertEqual(last(*before, tell(kind, payload)), [0, len(told)] + told)

    def refused(self, before, kind, payload, number):
        call = tell(kind, payload)
        self.assertEqual(last(*before, call), [number])
        self.assertEqual(standing(before + [call]), standing(before))


class Kinds(TellTest):
    def test_1_no_such_kind(self):
        for kind in (0, 5, 6, 255, 256, 257, 65537, 4294967295):
            self.refused([POR], kind, row("A"), -1)
            self.refused([POR], kind, [0] * 4105, -1)

    def test_2_payloads_of_4104_and_4105_bytes(self):
        for kind in (1, 2, 3, 4):
            self.refused([POR], kind, [65] * 4104, -6)
            self.refused([POR], kind, [65] * 4105, -2)
        longest = [7] + row("ABCDEFG") + row("level 0\n" * 512)
        self.assertEqual(len(longest), 4104)
        self.refused([], 2, longest, -6)
        self.refused([], 2, longest + [10], -2)

    def test_payloads_far_too_long(self):
        self.refused([], 1, [10] * 29900, -2)


class Skies(TellTest):
    def test_taken(self):
        self.taken([], 1, "")
        self.taken([], 1, SKY)
        self.taken([tell(1, SKY)], 1, "")
        self.taken([tell(1, SKY), tell(2, port("P", PORT))], 1, SKY + "sum Z M2\n")
        self.taken([POR, tell(3, lesser())], 1, SKY)
        self.assertEqual(last(tell(1, SKY), tell(1, "angle a 0 0\n"), text(1, 0)), [0, 0, 12] + row("angle a 0 0\n"))

    def test_not_right(self):
        self.refused([tell(1, SKY)], 1, "wave W a\n", -6)
        self.refused([], 1, SKY[:-1], -6)
        self.refused([], 1, sky_of_length(4097), -6)
        self.taken([], 1, sky_of_length(4096))

    def test_a_port_hinders(self):
        stood = [tell(1, SKY), tell(2, port("Q", FLAT)), tell(2, port("P", PORT))]
        self.refused(stood, 1, "", -9)
        self.refused(stood, 1, SKY.replace("MS4", "MS5"), -9)
        # An angle of that name won't do.
        self.refused(stood, 1, "angle M2 0 0\nwave MS4 M2\n", -9)
        self.refused(stood, 1, "x", -6)
        # A wave may become a sum and a sum a wave.
        self.taken(stood, 1, "angle a 0 0\nwave MS4 a\nsum M2 MS4\n")
        self.taken(stood + [tell(4, "P")], 1, "")
        self.taken(stood + [tell(2, port("P", FLAT))], 1, "")

    def test_ports_go_by_the_sky_that_stands(self):
        self.refused([tell(1, SKY), tell(1, "")], 2, port("P", PORT), -6)
        self.taken([tell(1, ""), tell(1, SKY)], 2, port("P", PORT))


class Ports(TellTest):
    def test_taken(self):
        self.taken([], 2, port("P", FLAT))
        self.taken([], 2, port("ABCDEFG", FLAT))
        self.taken([tell(1, SKY)], 2, port("turn", PORT))

    def test_its_length_byte(self):
        self.refused([], 2, [], -6)
        self.refused([], 2, [0], -6)
        self.refused([], 2, [0] + row(FLAT), -6)
        self.refused([], 2, [1], -6)
        self.refused([], 2, [1] + row("P"), -6)
        self.refused([], 2, [2] + row("P"), -6)
        self.refused([], 2, [255] + row("P" + FLAT), -6)
        self.refused([], 2, [2] + row("P" + FLAT), -6)

    def test_its_name(self):
        self.refused([], 2, port("ABCDEFGH", FLAT), -6)
        self.refused([], 2, port("1A", FLAT), -6)
        self.refused([], 2, port("A b", FLAT), -6)
        self.refused([], 2, port("A\n", FLAT), -6)
        self.refused([], 2, port("\u00e9", FLAT), -6)

    def test_its_text(self):
        self.refused([], 2, port("P", ""), -6)
        self.refused([], 2, port("P", PORT), -6)
        self.refused([tell(1, SKY)], 2, port("P", "level 0\nwave a 1 1\n"), -6)

    def test_a_table_hinders(self):
        self.refused([POR, tell(3, lesser())], 2, port("Les", FLAT), -9)
        self.refused([POR, tell(3, stream())], 2, port("Str", FLAT), -9)
        self.refused([POR, tell(3, lesser())], 2, port("Les", ""), -6)
        self.taken([POR, tell(3, lesser()), tell(4, "Les")], 2, port("Les", FLAT))

    def test_16_and_17(self):
        self.taken(PORTS[:15], 2, port("P15", FLAT))
        self.refused(PORTS, 2, port("Q", FLAT), -8)
        self.taken(PORTS, 2, port("P3", "level 3\n"))
        self.taken(PORTS + [tell(4, "P7")], 2, port("Q", FLAT))
        self.refused(PORTS, 2, port("Q", "x"), -6)
        self.refused(PORTS + [tell(3, lesser("L", "P0"))], 2, port("L", FLAT), -9)

    def test_takes_the_place_of_the_one_of_its_name(self):
        calls = PORTS[:4] + [tell(2, port("P1", "level 7\n"))]
        self.assertEqual(names(calls, 2), ["P0", "P1", "P2", "P3"])
        self.assertEqual(last(*calls, text(2, 1)), [0, 2] + row("P1") + [8] + row("level 7\n"))

    def test_a_name_told_again_comes_in_last(self):
        calls = PORTS[:4] + [tell(4, "P1"), PORTS[1]]
        self.assertEqual(names(calls, 2), ["P0", "P2", "P3", "P1"])

    def test_a_port_with_tables_may_be_told_anew(self):
        self.taken([POR, tell(3, lesser())], 2, port("Por", "level 1\n"))

    def test_names_differ_by_each_sign(self):
        calls = [tell(2, port(name, FLAT)) for name in ("A", "a", "A1", "A2")]
        self.assertEqual(names(calls, 2), ["A", "a", "A1", "A2"])


class Tables(TellTest):
    def test_taken(self):
        self.taken([POR], 3, lesser())
        self.taken([POR], 3, stream())

    def test_not_right(self):
        self.refused([POR], 3, "", -6)
        self.refused([POR], 3, lesser()[:-1], -6)
        self.refused([POR], 3, stream(ranges="2 1"), -6)
        self.refused([POR], 3, [0] * 4097, -6)
        self.refused([POR], 3, lesser(of="Q", rise=" 0 0"), -6)

    def test_of_a_port_that_is_not_there(self):
        self.refused([], 3, lesser(), -3)
        self.refused([POR], 3, lesser(of="Q"), -3)
        self.refused([POR], 3, stream(of="por"), -3)
        self.refused([POR, tell(4, "Por")], 3, lesser(), -3)
        # A table is no port.
        self.refused([POR, tell(3, lesser())], 3, stream(of="Les"), -3)
        self.refused([POR], 3, lesser("Por", "Q"), -3)

    def test_a_port_hinders(self):
        self.refused([POR], 3, lesser("Por", "Por"), -9)
        self.refused([POR, tell(2, port("Q", FLAT))], 3, stream("Q", "Por"), -9)

    def test_32_and_33(self):
        full = PORTS + TABLES
        self.taken(full[:-1], 3, lesser("L31", "P0"))
        self.refused(full, 3, lesser("M", "P0"), -8)
        self.refused(full, 3, lesser("M", "Q"), -3)
        self.refused(full, 3, lesser("P1", "P0"), -9)
        self.taken(full, 3, lesser("L3", "P5"))
        self.taken(full + [tell(4, "L9")], 3, lesser("M", "P0"))

    def test_takes_the_place_of_the_one_of_its_name(self):
        anew = stream("L1", "P2")
        calls = PORTS[:3] + TABLES[:4] + [tell(3, anew)]
        self.assertEqual(names(calls, 3), ["L0", "L1", "L2", "L3"])
        self.assertEqual(last(*calls, text(3, 1)), [0, 2] + row("L1") + [len(anew)] + row(anew))
        # It is of the new port from now on.
        self.refused(calls, 4, "P2", -9)
        self.taken(PORTS[:3] + TABLES[:1] + [tell(3, lesser("L0", "P2"))], 4, "P0")

    def test_a_name_told_again_comes_in_last(self):
        calls = PORTS[:1] + TABLES[:4] + [tell(4, "L1"), TABLES[1]]
        self.assertEqual(names(calls, 3), ["L0", "L2", "L3", "L1"])


class NamesGone(TellTest):
    def test_taken(self):
        self.taken([POR], 4, "Por")
        self.taken([POR, tell(3, lesser())], 4, "Les")
        self.taken([POR, tell(3, lesser()), tell(4, "Les")], 4, "Por")
        self.assertEqual(names([POR, tell(4, "Por")], 2), [])

    def test_no_name(self):
        for payload in ("", "1A", "ABCDEFGH", "Por\n", "Por ", " Por", [0], [3] + row("Por"), [80] * 4104):
            self.refused([POR], 4, payload, -6)

    def test_not_there(self):
        self.refused([], 4, "Por", -3)
        self.refused([POR], 4, "por", -3)
        self.refused([POR, tell(4, "Por")], 4, "Por", -3)
        # A sky's names are none of the book's.
        self.refused([tell(1, SKY), tell(2, port("P", PORT))], 4, "M2", -3)

    def test_a_table_hinders(self):
        self.refused([POR, tell(3, lesser())], 4, "Por", -9)
        self.refused([POR, tell(3, lesser()), tell(3, stream()), tell(4, "Les")], 4, "Por", -9)
        self.taken([POR, tell(2, port("Q", FLAT)), tell(3, lesser())], 4, "Q")


class Refusals(TellTest):
    def test_amid_other_calls(self):
        calls = [POR, tell(9, ""), tell(3, lesser(of="Q")), tell(3, lesser()), tell(4, "Por"), tell(2, port("Les", FLAT))]
        self.assertEqual([answer[0] for answer in ask(*calls)], [0, -1, -3, 0, -9, -9])
        self.assertEqual(standing(calls), standing([POR, tell(3, lesser())]))
        self.assertEqual(standing(calls)[0], [0, 1, 1, saved_length("", [("Por", FLAT)], [lesser()])])


if __name__ == "__main__":
    unittest.main()
