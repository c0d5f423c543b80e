"""L1, L3, L4, L5 and L6 on books that were told much, right and wrong, at random but the same each time."""

import random
import unittest

from tests.helper import FLAT, ask, entry, fault, lesser, names, play, port, row, standing, stream, tell, text
from tidebooks.port import read_port
from tidebooks.sky import read_sky
from tidebooks.table import read_table

NAMES = ("A", "B", "C", "D", "E")
SKIES = ("", "angle a 0 0\nwave M a\n", "angle a 0 0\nwave M a\nwave N a\n", "angle a 0 0\nwave N a\nsum M N\n",
         "angle M 0 0\n", "wave M a\n")
PORTS = (FLAT, "level 1\nwave M 1 1\n", "level 1\nwave M 1 1\nwave N 1 1\n", "level")


def some_told(source):
    """A kind and a payload, right more often than not."""
    kind = source.choice((1, 1, 2, 2, 2, 3, 3, 3, 4))
    name = source.choice(NAMES)
    if kind == 1:
        return (kind, row(source.choice(SKIES)))
    if kind == 2:
        return (kind, port(name, source.choice(PORTS)))
    if kind == 3:
        made = source.choice((lesser, stream))
        return (kind, row(made(name, source.choice(NAMES))))
    return (kind, row(name))


class Promises(unittest.TestCase):
    def setUp(self):
        source = random.Random(2)
        self.cases = [[some_told(source) for number in range(40)] for case in range(60)]

    def taken(self, told):
        """Those that were taken of what was told."""
        answered = ask(*[tell(kind, payload) for kind, payload in told])
        return [one for one, answer in zip(told, answered) if answer[0] == 0]

    def test_some_are_taken_and_some_refused(self):
        counts = [len(self.taken(told)) for told in self.cases]
        self.assertGreater(min(counts), 5)
        self.assertLess(max(counts), 40)

    def test_l1_what_stands_is_right(self):
        for told in self.cases:
            calls = [tell(kind, payload) for kind, payload in told]
            known = read_sky(ask(*calls, text(1, 0))[-1][3:])
            ports = names(calls, 2)
            for i, name in enumerate(ports):
                answer = ask(*calls, text(2, i))[-1]
                self.assertIsNone(fault(read_port, answer[3 + len(name):], known))
            tables = names(calls, 3)
            for i, name in enumerate(tables):
                heading = read_table(ask(*calls, text(3, i))[-1][3 + len(name):])
                self.assertIn("".join(map(chr, heading.of)), ports)
            self.assertEqual(len(set(ports + tables)), len(ports + tables))

    def test_l3_the_entries_played_make_the_same_book(self):
        for told in self.cases:
            calls = [tell(kind, payload) for kind, payload in told]
            answered = ask(*calls)
            before = calls[:15]
            rest = [answer[2:] for answer in answered[15:] if answer[0] == 0]
            journal = [byte for one in rest for byte in one]
            self.assertEqual(standing(before + [play(journal)]), standing(calls))
            cut = len(journal) // 2
            whole = 0
            while sum(map(len, rest[:whole + 1])) <= cut:
                whole += 1
            pieces = [play(one) for one in rest[:whole]]
            self.assertEqual(standing(before + [play(journal[:cut])]), standing(before + pieces))

    def test_l4_bytes_behind_the_good_part_change_nothing(self):
        for told in self.cases:
            journal = [byte for kind, payload in told for byte in entry(kind, payload)]
            good = ask(play(journal))[0][2]
            self.assertLess(good, len(journal))
            self.assertEqual(standing([play(journal)]), standing([play(journal[:good])]))
            self.assertEqual(standing([play(journal[:good] + [7] * 50)]), standing([play(journal[:good])]))

    def test_l5_refused_calls_change_nothing(self):
        for told in self.cases:
            calls = [tell(kind, payload) for kind, payload in told]
            taken = [tell(kind, payload) for kind, payload in self.taken(told)]
            self.assertEqual(standing(calls), standing(taken))

    def test_l6_a_bit_turned_ends_the_good_part(self):
        source = random.Random(3)
        for told in self.cases:
            rows = [entry(kind, payload) for kind, payload in self.taken(told)]
            index = source.randrange(len(rows))
            place = source.choice([0] + list(range(5, len(rows[index]))))
            before = [byte for one in rows[:index] for byte in one]
            rows[index][place] ^= 1 << source.randrange(8)
            journal = [byte for one in rows for byte in one]
            self.assertEqual(ask(play(journal)), [[0, index, len(before)]])


if __name__ == "__main__":
    unittest.main()
