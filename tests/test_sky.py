import unittest

from tests.helper import SKY, fault, last, row, sky_of_length, tell
from tidebooks.sky import read_sky

BASE = "angle a 0 0\nwave W a\n"
AT = len(BASE)


class SkyTest(unittest.TestCase):
    def right(self, text):
        self.assertIsNone(fault(read_sky, text), text)
        self.assertEqual(last(tell(1, text))[0], 0, text)

    def wrong(self, text, kind, place):
        self.assertEqual(fault(read_sky, text), (kind, place), text)
        self.assertEqual(last(tell(1, text)), [-6], text)

    def grammar(self, line, place):
        """A line at fault at this place, behind lines that are right."""
        self.wrong(BASE + line, 1, AT + place)


class RightTexts(SkyTest):
    def test_right(self):
        self.right("")
        self.right(BASE)
        self.right(SKY)

    def test_waves_and_sums_are_known_and_angles_are_not(self):
        names = {tuple(row(name)) for name in ("M2", "S2", "MS4")}
        self.assertEqual(set(read_sky(row(SKY))), names)

    def test_keywords_are_names(self):
        self.right("angle turn 0 0\nwave factor turn turn 90 factor 0 turn shift 0 turn\nsum shift factor\n")
        self.right("angle angle 0 0\nwave wave angle\nsum sum wave\n")

    def test_signs_and_counts(self):
        self.right(BASE + "wave V - 15 a - 1 a + 9 a + a - 10 a\n")
        self.right(BASE + "sum V - W + 2 W - 9 W\n")

    def test_letters_at_the_edges(self):
        self.right("angle A09Zaz9 0 0\nangle Z 0 0\nangle z 0 0\n")


class Grammar(SkyTest):
    def test_heads(self):
        self.grammar("bngle", 0)
        self.grammar("anglo b 0 0\n", 4)
        self.grammar("wave  V a\n", 5)
        self.grammar("summ V W\n", 3)
        self.grammar("\n", 0)
        self.grammar(" sum V W\n", 0)
        self.wrong("x", 1, 0)

    def test_wants_its_line_feed(self):
        self.wrong(BASE[:-1], 1, AT - 1)
        self.grammar("sum V W", 7)
        self.grammar("sum V W\r\n", 7)
        self.grammar("sum V W ", 7 + 1)

    def test_names_of_7_and_8_signs(self):
        self.right(BASE + "sum ABCDEFG W\n")
        self.grammar("sum ABCDEFGH W\n", 11)
        self.grammar("sum V ABCDEFGH\n", 13)
        self.grammar("sum 1V W\n", 4)
        self.grammar("sum V_ W\n", 5)

    def test_signs_beside_letters_and_digits(self):
        for sign in "@[`{":
            self.grammar(f"sum {sign} W\n", 4)
            self.grammar(f"sum V{sign} W\n", 5)
        for sign in "/:":
            self.grammar(f"sum V{sign} W\n", 5)
            self.grammar(f"angle b 1{sign} 0\n", 9)

    def test_numbers(self):
        self.right(BASE + "angle b 000 -999.123456789012\n")
        self.right(BASE + "angle b -0 007.000000000001\n")
        self.grammar("angle b 1234 0\n", 11)
        self.grammar("angle b 1.1234567890123 0\n", 22)
        self.grammar("angle b 1. 0\n", 10)
        self.grammar("angle b .5 0\n", 8)
        self.grammar("angle b +5 0\n", 8)
        self.grammar("angle b --5 0\n", 9)
        self.grammar("angle b 5\n", 9)
        self.grammar("angle b 5 \n", 10)
        self.grammar("angle b 5 5 \n", 11)

    def test_counts(self):
        self.right(BASE + "wave V 15 a\n")
        self.right(BASE + "wave V 1 a\n")
        self.grammar("wave V 16 a\n", 8)
        self.grammar("wave V 20 a\n", 8)
        self.grammar("wave V 01 a\n", 7)
        self.grammar("wave V 0 a\n", 7)
        self.grammar("wave V 150 a\n", 9)
        self.grammar("wave V 2a\n", 8)
        self.grammar("wave V 2  a\n", 9)

    def test_signs_of_a_sum(self):
        self.grammar("wave V + a\n", 7)
        self.grammar("wave V -a\n", 8)
        self.grammar("wave V a +a\n", 10)
        self.grammar("wave V a - - a\n", 11)
        self.grammar("wave V a a\n", 9)

    def test_8_and_9_terms(self):
        eight = " + ".join(["W"] * 8)
        self.right(BASE + f"sum V {eight}\n")
        self.grammar(f"sum V {eight} + W\n", 6 + len(eight))
        eight = " - ".join(["a"] * 8)
        self.right(BASE + f"wave V - {eight} factor 0 {eight} shift 0 {eight}\n")
        # Here a blank may lead on to turn, factor or shift.
        self.grammar(f"wave V {eight} - a\n", 7 + len(eight) + 1)
        self.grammar(f"wave V a factor 0 {eight} - a\n", 18 + len(eight) + 1)
        shifts = " shift 0 a" * 7
        self.grammar(f"wave V a{shifts} shift 0 {eight} - a\n", 8 + len(shifts) + 9 + len(eight))

    def test_turns(self):
        for turn in ("90", "180", "270"):
            self.right(BASE + f"wave V a turn {turn}\n")
        self.grammar("wave V a turn 0\n", 14)
        self.grammar("wave V a turn 360\n", 14)
        self.grammar("wave V a turn 91\n", 15)
        self.grammar("wave V a turn 190\n", 15)
        self.grammar("wave V a turn 900\n", 16)
        self.grammar("wave V a turn 90 turn 90\n", 17)
        self.grammar("wave V a turn 90 + a\n", 17)
        self.grammar("wave V a factor 0 a turn 90\n", 20)
        self.grammar("sum V W turn 90\n", 8)

    def test_8_and_9_factors(self):
        factors = " factor 0.1 a" * 8
        self.right(BASE + f"wave V a{factors}\n")
        self.right(BASE + f"wave V a{factors} shift 0 a\n")
        self.grammar(f"wave V a{factors} factor 0.1 a\n", 8 + len(factors) + 1)
        self.grammar("wave V a factor a\n", 16)
        self.grammar("wave V a shift 0 a factor 0 a\n", 19)

    def test_8_and_9_shifts(self):
        shifts = " shift -999.5 a" * 8
        self.right(BASE + f"wave V a{shifts}\n")
        self.right(BASE + f"wave V a turn 180{' factor 0 a' * 8}{shifts}\n")
        # Behind the eighth a blank may still lead on to a further term.
        self.right(BASE + f"wave V a{shifts} + a\n")
        self.grammar(f"wave V a{shifts} shift 0 a\n", 8 + len(shifts) + 1)

    def test_grammar_goes_before_all_else(self):
        self.wrong("angle a 0 0\nangle a 0 0\nsum V X\nx", 1, 32)


class Faults(SkyTest):
    def test_2_a_name_twice(self):
        for line in ("angle W 0 0\n", "wave W a\n", "sum W W\n"):
            self.wrong(BASE + line, 2, AT + line.index("W"))
        self.wrong(BASE + "angle a 0 0\n", 2, AT + 6)
        self.right(BASE + "angle A 0 0\n")

    def test_3_names_of_a_wave(self):
        self.wrong(BASE + "wave V X\n", 3, AT + 7)
        self.wrong(BASE + "wave V W\n", 3, AT + 7)
        self.wrong(BASE + "wave V V\n", 3, AT + 7)
        self.wrong(BASE + "wave V a + 2 X\n", 3, AT + 13)
        self.wrong(BASE + "wave V a factor 0 X\n", 3, AT + 18)
        self.wrong(BASE + "wave V a shift 0 X\n", 3, AT + 17)
        self.wrong(BASE + "wave V c\nangle c 0 0\n", 3, AT + 7)

    def test_3_names_of_a_sum(self):
        self.wrong(BASE + "sum V X\n", 3, AT + 6)
        self.wrong(BASE + "sum V a\n", 3, AT + 6)
        self.wrong(BASE + "sum V V\n", 3, AT + 6)
        self.wrong(BASE + "sum U W\nsum V U\n", 3, AT + 14)
        self.wrong(BASE + "sum V U\nwave U a\n", 3, AT + 6)

    def test_4_angles(self):
        sixteen = "".join([f"angle a{i} 0 0\n" for i in range(16)])
        self.right(sixteen + "wave W a0\n")
        self.wrong(sixteen + "angle b 0 0\n", 4, len(sixteen) + 6)
        self.wrong(sixteen + "angle a3 0 0\n", 2, len(sixteen) + 6)

    def test_4_waves_and_sums(self):
        waves = "angle a 0 0\n" + "".join([f"wave w{i} a\n" for i in range(100)])
        full = waves + "".join([f"sum s{i} w{i}\n" for i in range(28)])
        self.right(full + "angle b 0 0\n")
        self.wrong(full + "wave v a\n", 4, len(full) + 5)
        self.wrong(full + "sum v w0\n", 4, len(full) + 4)
        self.wrong(full + "sum s1 w0\n", 2, len(full) + 4)
        self.wrong(full + "wave v a factor 1 a\n", 4, len(full) + 5)

    def test_5_factors_together(self):
        self.right(BASE + "wave V a factor 0.999999999999 a\n")
        self.right(BASE + "wave V a factor 0.5 a factor -0.499999999999 a shift 5 a\n")
        self.wrong(BASE + "wave V a factor 1 a\n", 5, AT + 5)
        self.wrong(BASE + "wave V a factor -1.0 a\n", 5, AT + 5)
        self.wrong(BASE + "wave V a factor 0.5 a factor -0.5 a\n", 5, AT + 5)
        self.wrong(BASE + "wave V a factor 0.999999999999 a factor 0.000000000001 a\n", 5, AT + 5)

    def test_5_counts_together(self):
        self.right(BASE + "sum V 12 W\n")
        self.wrong(BASE + "sum V 13 W\n", 5, AT + 4)
        self.right(BASE + "sum V 11 W - W\n")
        self.wrong(BASE + "sum V - 6 W - 6 W + W\n", 5, AT + 4)
        self.right(BASE + "wave V 15 a + 15 a\n")

    def test_the_first_by_place(self):
        self.wrong(BASE + "wave V X factor 1 a\n", 5, AT + 5)
        self.wrong(BASE + "sum V X\nsum V W\n", 3, AT + 6)
        self.wrong(BASE + "sum W 13 X\n", 2, AT + 4)
        self.wrong(BASE + "sum V W\nsum V X\n", 2, AT + 12)


class Lengths(SkyTest):
    def test_4096_and_4097_bytes(self):
        for length, answer in ((4095, 0), (4096, 0), (4097, -6), (4104, -6), (4105, -2)):
            text = sky_of_length(length)
            self.assertEqual(len(text), length)
            self.assertIsNone(fault(read_sky, text))
            self.assertEqual(last(tell(1, text))[0], answer, length)


if __name__ == "__main__":
    unittest.main()
