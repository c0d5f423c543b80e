import unittest

from tests.helper import FLAT, HOURS, fault, last, lesser, port, row, stream, tell
from tidebooks.table import read_table


class TableTest(unittest.TestCase):
    def right(self, text):
        self.assertIsNone(fault(read_table, text), text)
        self.assertEqual(last(tell(2, port("Por", FLAT)), tell(3, text))[0], 0, text)

    def wrong(self, text, kind, place):
        self.assertEqual(fault(read_table, text), (kind, place), text)
        self.assertEqual(last(tell(2, port("Por", FLAT)), tell(3, text)), [-6], text)

    def wrong_at(self, text, kind, mark, more=0):
        """At fault so many bytes behind where the mark begins."""
        self.wrong(text, kind, text.index(mark) + more)

    def wrong_pairs(self, rise, kind, place):
        text = lesser(rise=rise)
        self.wrong(text, kind, text.index("rise") + 4 + place)


class Headings(TableTest):
    def test_right(self):
        self.right(lesser())
        self.right(stream())

    def test_names(self):
        heading = read_table(row(lesser("of", "of")))
        self.assertEqual((heading.name, heading.of), (tuple(row("of")), tuple(row("of"))))
        heading = read_table(row(stream("ABCDEFG", "A1")))
        self.assertEqual((heading.name, heading.of), (tuple(row("ABCDEFG")), tuple(row("A1"))))

    def test_grammar(self):
        self.wrong("", 1, 0)
        self.wrong("port", 1, 0)
        self.wrong("\n" + lesser(), 1, 0)
        self.wrong(lesser(name="ABCDEFGH"), 1, 14)
        self.wrong(lesser(name="1A"), 1, 7)
        self.wrong(lesser(name="A", of="ABCDEFGH"), 1, 19)
        self.wrong(lesser(name="A off"), 1, 11)
        self.wrong(stream(name="A  "), 1, 9)
        self.wrong("lesser A of B \n", 1, 13)
        self.wrong("lesser A of B", 1, 13)
        self.wrong("lesser A of B\nranges 1 2\n", 1, 14)
        self.wrong("stream A of B\nhigh 0000", 1, 14)

    def test_wants_its_last_line_feed(self):
        for text in (lesser(), stream()):
            self.wrong(text[:-1], 1, len(text) - 1)
            self.wrong(text + "\n", 1, len(text))
            self.wrong(text + text, 1, len(text))


class LesserPorts(TableTest):
    def test_grammar_of_times(self):
        self.wrong_at(lesser(high="000 +0 0600 +0"), 1, "000 +0", 3)
        self.wrong_at(lesser(high="00000 +0 0600 +0"), 1, "00000", 4)
        self.wrong_at(lesser(high="00:00 +0 0600 +0"), 1, "00:00", 2)
        self.wrong_at(lesser(low="0000 0 0600 +0"), 1, "0000 0 ", 5)
        self.wrong_at(lesser(low="0000 + 0600 +0"), 1, "0000 + ", 6)
        self.wrong_at(lesser(low="0000 +1000 0600 +0"), 1, "+1000", 4)
        self.wrong_at(lesser(low="0000 +1.5 0600 +0"), 1, "+1.5", 2)
        self.wrong_at(lesser(low="0000 +1 0600"), 1, "+1 0600", 7)
        self.wrong_at(lesser(low="0000 +1 0600 -1 "), 1, "0600 -1 ", 7)
        self.wrong_at(lesser().replace("low", "high"), 1, "high 0100")

    def test_right_times(self):
        self.right(lesser(high="2359 +000 0000 -999", low="1259 +12 0058 -0"))

    def test_2_times(self):
        self.wrong_at(lesser(high="0060 +0 0600 +0"), 2, "0060")
        self.wrong_at(lesser(high="2400 +0 0600 +0"), 2, "2400")
        self.wrong_at(lesser(high="0000 +0 9999 +0"), 2, "9999")
        self.wrong_at(lesser(low="0000 +0 0199 +0"), 2, "0199")

    def test_3_the_same_time(self):
        self.wrong_at(lesser(high="0300 +0 0300 +1"), 3, "0300 +1")
        self.wrong_at(lesser(high="0300 +0 1500 +1"), 3, "1500")
        self.wrong_at(lesser(low="1217 +0 0017 +1"), 3, "0017")
        self.right(lesser(high="0300 +0 1501 +1"))
        # High and low may have the same.
        self.right(lesser(high="0300 +0 0900 +1", low="0300 +0 0900 +1"))
        self.wrong_at(lesser(high="0360 +0 0360 +1"), 2, "0360")
        self.wrong_at(lesser(high="2700 +0 0300 +1"), 2, "2700")
        self.wrong_at(lesser(high="0300 +0 2700 +1"), 2, "2700")

    def test_pairs_1_2_8_and_9(self):
        pairs = [f" {i} -{i}.5" for i in range(9)]
        self.wrong_pairs(pairs[0], 1, len(pairs[0]))
        self.right(lesser(rise="".join(pairs[:2])))
        self.right(lesser(rise="".join(pairs[:8])))
        self.wrong_pairs("".join(pairs), 1, 8 * len(pairs[0]))
        self.wrong_pairs("", 1, 0)

    def test_grammar_of_pairs(self):
        self.wrong_pairs("  0 0 1 1", 1, 1)
        self.wrong_pairs(" 0 0 1", 1, 6)
        self.wrong_pairs(" 0 0 100 1", 1, 7)
        self.wrong_pairs(" 0 0 1.123 1", 1, 9)
        self.wrong_pairs(" 0 0 1. 1", 1, 7)
        self.wrong_pairs(" 0 +1 1 1", 1, 3)
        self.wrong_pairs(" 0 0 1 1 ", 1, 9)
        self.right(lesser(rise=" -99.99 -99.99 00.1 99.99"))

    def test_4_heights_that_do_not_rise(self):
        self.wrong_pairs(" 0 0 0 1", 4, 5)
        self.wrong_pairs(" 1 0 1.00 1", 4, 5)
        self.wrong_pairs(" 0 0 -0 1", 4, 5)
        self.wrong_pairs(" -1 0 -1.01 1", 4, 6)
        self.wrong_pairs(" 1 0 3 0 2 0", 4, 9)
        self.right(lesser(rise=" -1.01 0 -1 0 -0.99 0 0 0 0.01 0"))
        # Second heights may stand in any order, also above the next first one.
        self.right(lesser(rise=" 0 9 1 -9 2 -9"))

    def test_the_first_by_place(self):
        self.wrong_at(lesser(high="0000 +0 1200 +0", low="9900 +0 0000 +0", rise=" 0 0 0 0"), 3, "1200")
        self.wrong_at(lesser(low="9900 +0 0000 +0", rise=" 0 0 0 0"), 2, "9900")
        self.wrong_at(lesser(high="9900 +0 0000 +0", rise=" 0 0 1"), 1, " 0 0 1", 6)


class Streams(TableTest):
    def test_grammar_of_ranges(self):
        self.right(stream(ranges="0 0.01"))
        self.right(stream(ranges="00.00 99.99"))
        self.wrong_at(stream(ranges="-1 2"), 1, "-1 2")
        self.wrong_at(stream(ranges="1 200"), 1, "200", 2)
        self.wrong_at(stream(ranges="1 2.123"), 1, "2.123", 4)
        self.wrong_at(stream(ranges="1"), 1, "ranges 1", 8)
        self.wrong_at(stream(ranges="1 2 3"), 1, "1 2 3", 3)

    def test_5_ranges(self):
        self.wrong_at(stream(ranges="1.5 1.50"), 5, "1.50")
        self.wrong_at(stream(ranges="1.5 1.49"), 5, "1.49")
        self.right(stream(ranges="1.5 1.51"))

    def test_12_13_and_14_hours(self):
        self.right(stream(hours=HOURS))
        text = stream(hours=HOURS[:12])
        self.wrong(text, 1, len(text))
        text = stream(hours=HOURS + ("+6",))
        self.wrong(text, 1, text.rindex("hour"))

    def test_grammar_of_hours(self):
        for hour, place in (("-7", 1), ("-0", 1), ("+0", 1), ("1", 0), ("+7", 1), ("00", 1), ("+10", 2)):
            text = stream(hours=(hour,) + HOURS[1:])
            self.wrong(text, 1, text.index("hour") + 5 + place)

    def test_6_hours(self):
        text = stream(hours=HOURS[:6] + ("+1", "0") + HOURS[8:])
        self.wrong_at(text, 6, "hour +1", 5)
        self.wrong_at(stream(hours=("-5",) + HOURS[1:]), 6, "hour -5", 5)
        self.wrong_at(stream(hours=HOURS[:12] + ("+5",)), 6, "hour +5 090 1.5 2\nhour +5", 23)
        self.wrong_at(stream(hours=tuple(reversed(HOURS))), 6, "+6")

    def test_7_directions(self):
        self.right(stream(direction="000"))
        self.right(stream(direction="359"))
        self.wrong_at(stream(direction="360"), 7, "360")
        self.wrong_at(stream(direction="999"), 7, "999")
        self.wrong_at(stream(direction="90"), 1, "90 ", 2)
        self.wrong_at(stream(direction="0900"), 1, "0900", 3)

    def test_rates(self):
        self.right(stream(rates="0 99.9"))
        self.right(stream(rates="00.0 07"))
        self.wrong_at(stream(rates="1 100"), 1, "100", 2)
        self.wrong_at(stream(rates="1 1.55"), 1, "1.55", 3)
        self.wrong_at(stream(rates="1. 1"), 1, "1. ", 2)
        self.wrong_at(stream(rates="-1 1"), 1, "-1 1")
        self.wrong_at(stream(rates="1"), 1, " 1\n", 2)
        self.wrong_at(stream(rates="1 1 1"), 1, "1 1 1", 3)

    def test_the_first_by_place(self):
        self.wrong_at(stream(hours=("+6",) + HOURS[1:], direction="400"), 6, "+6")
        self.wrong_at(stream(hours=HOURS[:12] + ("-6",), direction="400"), 7, "400")
        self.wrong_at(stream(ranges="2 1", direction="400"), 5, "2 1", 2)


if __name__ == "__main__":
    unittest.main()
