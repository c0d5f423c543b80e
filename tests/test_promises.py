"""L1 to L6 on books that were told much, right and wrong, at random but the same each time.

Each book is made in three ways: by tell, by play and by load. All three have to keep each promise.
"""

import random
import unittest

from tests.helper import (FLAT, ask, entry, fault, find, joined, last, lesser, load, names, play, port, row, save,
                          save_of, saved, standing, stream, tell, text)
from tidebooks.port import read_port
from tidebooks.sky import read_sky
from tidebooks.table import read_table

NAMES = ("A", "B", "C", "D", "E")
SKIES = ("", "angle a 0 0\nwave M a\n", "angle a 0 0\nwave M a\nwave N a\n", "angle a 0 0\nwave N a\nsum M N\n",
         "angle M 0 0\n", "wave M a\n")
PORTS = (FLAT, "level 1\nwave M 1 1\n", "level 1\nwave M 1 1\nwave N 1 1\n", "level")


def some_told(source):
    """A kind and a payload, right more often than not."""
    kind = source.choice((1, 1, 2, 2, 2, 3, 3, 3, 4))
    name = source.choice(NAMES)
    if kind == 1:
        return (kind, row(source.choice(SKIES)))
    if kind == 2:
        return (kind, port(name, source.choice(PORTS)))
    if kind == 3:
        made = source.choice((lesser, stream))
        return (kind, row(made(name, source.choice(NAMES))))
    return (kind, row(name))


def tells(told):
    return [tell(kind, payload) for kind, payload in told]


def taken_of(before, told):
    """Those that are taken of what is told behind these calls."""
    answered = ask(*before, *tells(told))[len(before):]
    return [one for one, answer in zip(told, answered) if answer[0] == 0]


def entries_of(told):
    return [entry(kind, payload) for kind, payload in told]


def ways(told):
    """The calls that make one and the same book by tell, by play, and by load on another book."""
    calls = tells(told)
    journal = joined(entries_of(taken_of([], told)))
    return [calls, [play(journal)], [tell(2, port("E", FLAT)), load(save_of(calls))]]


def turned_at(told, place, bit):
    return told[:place] + [told[place] ^ 1 << bit] + told[place + 1:]


class Promises(unittest.TestCase):
    def setUp(self):
        self.source = random.Random(2)
        self.cases = [self.some(30) for case in range(25)]

    def some(self, count):
        return [some_told(self.source) for number in range(count)]

    def some_taken(self, before, least):
        """So many at least that are taken behind these calls, one behind another."""
        taken = []
        while len(taken) < least:
            taken += taken_of(before + tells(taken), self.some(1))
        return taken

    def test_some_are_taken_and_some_refused(self):
        counts = [len(taken_of([], told)) for told in self.cases]
        self.assertGreater(min(counts), 3)
        self.assertLess(max(counts), 30)

    def test_each_way_makes_the_same_book(self):
        for told in self.cases:
            by_tell, by_play, by_load = [standing(calls) for calls in ways(told)]
            self.assertEqual(by_play, by_tell)
            self.assertEqual(by_load, by_tell)

    def test_l1_what_stands_is_right(self):
        for told in self.cases:
            for calls in ways(told):
                known = read_sky(last(*calls, text(1, 0))[3:])
                ports = names(calls, 2)
                for i, name in enumerate(ports):
                    answer = last(*calls, text(2, i))
                    self.assertIsNone(fault(read_port, answer[3 + len(name):], known))
                tables = names(calls, 3)
                for i, name in enumerate(tables):
                    heading = read_table(last(*calls, text(3, i))[3 + len(name):])
                    self.assertIn("".join(map(chr, heading.of)), ports)
                self.assertEqual(len(set(ports + tables)), len(ports + tables))

    def test_what_is_saved_is_what_text_tells(self):
        for told in self.cases:
            for calls in ways(told):
                sky = last(*calls, text(1, 0))[3:]
                entries = [(1, sky)] if sky else []
                for i, name in enumerate(names(calls, 2)):
                    entries.append((2, port(name, last(*calls, text(2, i))[3 + len(name):])))
                for i, name in enumerate(names(calls, 3)):
                    entries.append((3, last(*calls, text(3, i))[3 + len(name):]))
                self.assertEqual(save_of(calls), saved(*entries))

    def test_what_find_finds_is_what_text_tells(self):
        for told in self.cases:
            for calls in ways(told):
                shelves = {2: names(calls, 2), 3: names(calls, 3)}
                expected = {name: [kind, i] for kind in shelves for i, name in enumerate(shelves[kind])}
                for name in NAMES:
                    self.assertEqual(last(*calls, find(name)), expected.get(name, [-4]))

    def test_l2_saved_and_loaded(self):
        for told in self.cases:
            more = tells(self.some(10)) + [find(name) for name in NAMES]
            for calls in ways(told):
                again = [load(save_of(calls))]
                self.assertEqual(ask(*again), [[0]])
                self.assertEqual(standing(again), standing(calls))
                self.assertEqual(ask(*again, *more)[1:], ask(*calls, *more)[len(calls):])

    def test_l2_saved_bytes_are_a_good_journal(self):
        for told in self.cases:
            for calls in ways(told):
                kept = save_of(calls)
                journal = kept[4:]
                self.assertEqual(kept[:4], row("TDB1"))
                self.assertEqual(last(play(journal))[2], len(journal))
                self.assertEqual(standing([play(journal)]), standing(calls))

    def test_bytes_are_a_book_if_what_they_make_saves_them(self):
        books = 0
        for number in range(400):
            told = self.source.choice(([], [(1, row(SKIES[1]))])) + self.some(self.source.randint(0, 3))
            journal = joined(entries_of(told))
            played = ask(play(journal), save())
            is_book = played[0][2] == len(journal) and played[1][2:] == row("TDB1") + journal
            books += is_book
            self.assertEqual(last(load(row("TDB1") + journal)), [0 if is_book else -5])
        self.assertGreater(books, 40)
        self.assertLess(books, 360)

    def test_l3_the_entries_played_make_the_same_book(self):
        for told in self.cases:
            more = tells(self.some(20))
            for calls in ways(told):
                answered = ask(*calls, *more)[len(calls):]
                journal = joined([answer[2:] for answer in answered if answer[0] == 0])
                self.assertEqual(standing(calls + [play(journal)]), standing(calls + more))
                pieces = [play(answer[2:]) for answer in answered if answer[0] == 0]
                self.assertEqual(standing(calls + pieces), standing(calls + more))

    def test_l3_cut_at_every_place(self):
        for told in [case[:12] for case in self.cases[:2]]:
            more = self.some_taken(tells(told), 4)
            entries = entries_of(more)
            journal = joined(entries)
            ends = [len(joined(entries[:count])) for count in range(len(entries) + 1)]
            stood = [standing(tells(told) + tells(more[:count])) for count in range(len(more) + 1)]
            for calls in ways(told):
                for cut in range(len(journal) + 1):
                    whole = len([end for end in ends if end <= cut]) - 1
                    self.assertEqual(last(*calls, play(journal[:cut])), [0, whole, ends[whole]])
                    self.assertEqual(standing(calls + [play(journal[:cut])]), stood[whole])

    def test_l4_bytes_behind_the_good_part_change_nothing(self):
        for told in self.cases:
            journal = joined(entries_of(self.some(30)))
            for calls in ways(told):
                good = last(*calls, play(journal))[2]
                self.assertLess(good, len(journal))
                stood = standing(calls + [play(journal[:good])])
                self.assertEqual(standing(calls + [play(journal)]), stood)
                for behind in ([7] * 50, row("TDB1"), journal[good:-1]):
                    self.assertEqual(standing(calls + [play(journal[:good] + behind)]), stood)

    def test_l5_refused_calls_change_nothing(self):
        for told in self.cases:
            self.assertEqual(standing(tells(told)), standing(tells(taken_of([], told))))
            wrong = tells(self.some(8)) + [tell(0, []), tell(5, row("A")), tell(1, [10] * 4105), text(0, 0),
                                           text(2, 16), find("Nix"), load([]), load("TDB"), load([1] * 50)]
            for calls in ways(told):
                refused = [call for call in wrong if last(*calls, call)[0] < 0]
                kept = save_of(calls)
                refused += [load(turned_at(kept, len(kept) - 1, 3)), load(kept + entry(4, row("A")))]
                answered = ask(*calls, *refused)[len(calls):]
                self.assertTrue(all([len(answer) == 1 and answer[0] < 0 for answer in answered]))
                self.assertEqual(standing(calls + refused), standing(calls))

    def test_l6_a_bit_turned_ends_the_good_part(self):
        for told in self.cases:
            more = self.some_taken(tells(told), 5)
            entries = entries_of(more)
            for calls in ways(told):
                for index, one in enumerate(entries):
                    place = self.source.choice([0] + list(range(5, len(one))))
                    turned = turned_at(one, place, self.source.randrange(8))
                    journal = joined(entries[:index] + [turned] + entries[index + 1:])
                    self.assertEqual(last(*calls, play(journal)), [0, index, len(joined(entries[:index]))])
                    self.assertEqual(standing(calls + [play(journal)]), standing(calls + tells(more[:index])))

    def test_l6_every_bit_of_an_entry(self):
        told = self.cases[0][:12]
        first, second, third = entries_of(self.some_taken(tells(told), 3))
        for calls in ways(told):
            for place in [0] + list(range(5, len(second))):
                for bit in range(8):
                    journal = first + turned_at(second, place, bit) + third
                    self.assertEqual(last(*calls, play(journal)), [0, 1, len(first)], (place, bit))


if __name__ == "__main__":
    unittest.main()
