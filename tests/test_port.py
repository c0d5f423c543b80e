import unittest

from tests.helper import PORT, SKY, fault, last, port, row, tell
from tidebooks.port import read_port
from tidebooks.sky import read_sky

KNOWN = read_sky(row(SKY))
HEAD = "level 0\n"
AT = len(HEAD)


class PortTest(unittest.TestCase):
    def right(self, text):
        self.assertIsNone(fault(read_port, text, KNOWN), text)
        self.assertEqual(last(tell(1, SKY), tell(2, port("P", text)))[0], 0, text)

    def wrong(self, text, kind, place):
        self.assertEqual(fault(read_port, text, KNOWN), (kind, place), text)
        self.assertEqual(last(tell(1, SKY), tell(2, port("P", text))), [-6], text)

    def grammar(self, line, place):
        self.wrong(HEAD + line, 1, AT + place)

    def test_right(self):
        self.right(HEAD)
        self.right(PORT)
        self.right("level -99.1234\nwave S2 00.0000 0\n")
        self.right("level 09.1\nwave M2 0 000.5\nwave S2 1 10\nwave MS4 12.34 359\n")

    def test_wants_its_level(self):
        self.wrong("", 1, 0)
        self.wrong("wave M2 1 1\n", 1, 0)
        self.wrong("level 0", 1, 7)
        self.wrong("level \n", 1, 6)
        self.wrong("level +1\n", 1, 6)
        self.wrong("level --1\n", 1, 7)
        self.wrong("level 123\n", 1, 8)
        self.wrong("level 1.\n", 1, 8)
        self.wrong("level 1.12345\n", 1, 12)
        self.wrong("level 0\nlevel 0\n", 1, 8)

    def test_grammar_of_a_wave(self):
        self.grammar("\n", 0)
        self.grammar("wave M2 1 1", 11)
        self.grammar("wave M2 1 1 \n", 11)
        self.grammar("wave  M2 1 1\n", 5)
        self.grammar("wave 2M 1 1\n", 5)
        self.grammar("wave ABCDEFGH 1 1\n", 12)
        self.grammar("wave M2\n", 7)
        self.grammar("wave M2 1\n", 9)
        self.grammar("wave M2 -1 1\n", 8)
        self.grammar("wave M2 123 1\n", 10)
        self.grammar("wave M2 1.12345 1\n", 14)
        self.grammar("wave M2 1. 1\n", 10)
        self.grammar("wave M2 1 -1\n", 10)
        self.grammar("wave M2 1 1234\n", 13)
        self.grammar("wave M2 1 1.1234\n", 15)
        self.grammar("wave M2 1 1.\n", 12)
        self.grammar("wave X 1 999\nx", 13)

    def test_2_a_name_twice(self):
        self.wrong(HEAD + "wave M2 1 1\nwave M2 1 1\n", 2, AT + 17)
        self.wrong(HEAD + "wave X 1 1\nwave X 1 1\n", 3, AT + 5)

    def test_3_a_name_that_the_sky_does_not_have(self):
        self.wrong(HEAD + "wave X 1 1\n", 3, AT + 5)
        self.wrong(HEAD + "wave m2 1 1\n", 3, AT + 5)
        # An angle is no wave.
        self.wrong(HEAD + "wave a 1 1\n", 3, AT + 5)
        self.assertEqual(last(tell(2, port("P", PORT))), [-6])

    def test_4_a_lag_of_360(self):
        self.right(HEAD + "wave M2 1 359.999\n")
        self.wrong(HEAD + "wave M2 1 360\n", 4, AT + 10)
        self.wrong(HEAD + "wave M2 1 360.000\n", 4, AT + 10)
        self.wrong(HEAD + "wave M2 1 999.999\n", 4, AT + 10)

    def test_the_first_by_place(self):
        self.wrong(HEAD + "wave X 1 400\n", 3, AT + 5)
        self.wrong(HEAD + "wave M2 1 400\nwave X 1 1\n", 4, AT + 10)

    def test_the_longest_text_of_a_port(self):
        waves = [f"w{i:06}" for i in range(128)]
        sky = "angle a 0 0\n" + "".join([f"wave {name} a\n" for name in waves])
        text = "level -99.1234\n" + "".join([f"wave {name} 99.1234 359.999\n" for name in waves])
        self.assertEqual(last(tell(1, sky), tell(2, port("ABCDEFG", text)))[0], 0)

    def test_4096_and_4097_bytes(self):
        # No sky has names enough for so long a text: both hold a name twice.
        lines = HEAD + "wave M2 1 1\n" * 339
        for length, line in ((4096, "wave M2 1.1234 12.3\n"), (4097, "wave M2 1.1234 123.4\n")):
            self.assertEqual(len(lines + line), length)
            self.wrong(lines + line, 2, AT + 17)


if __name__ == "__main__":
    unittest.main()
