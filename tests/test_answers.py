import unittest

from tests.helper import (FLAT, PORT, SKY, ask, entry, find, lesser, load, play, port, row, save, saved, size,
                          sky_of_length, tell, text)
from tidebooks.book import answers

CALLS = (size() + tell(1, SKY) + tell(7, [1, 2]) + tell(2, port("P", PORT)) + play(entry(4, row("P")) + [3, 0])
         + text(1, 0) + text(2, 0) + tell(2, port("Por", FLAT)) + tell(3, lesser()) + text(3, 0) + size()
         + find("Por") + find("Les") + find("P") + load("TDB") + save() + load(saved((2, port("Q", FLAT)))) + find("Q")
         + find("Les") + save())


class Answers(unittest.TestCase):
    def test_each_call_by_itself(self):
        self.assertEqual(answers([2]), [4, 0, 0, 0, 4])
        self.assertEqual(answers([3, 1, 0]), [3, 0, 0, 0])
        self.assertEqual(answers([3, 2, 0]), [1, -4])
        self.assertEqual(answers([1, 0]), [3, 0, 0, 0])
        self.assertEqual(answers([0, 0, 0]), [1, -1])
        told = entry(1, [])
        self.assertEqual(answers([0, 1, 0]), [11, 0, 9] + told)
        self.assertEqual(answers([4, 0]), [1, -4])
        self.assertEqual(answers([4, 1, 65]), [1, -4])
        self.assertEqual(answers([5]), [6, 0, 4, 84, 68, 66, 49])
        self.assertEqual(answers([6, 0]), [1, -5])
        self.assertEqual(answers([6, 4, 84, 68, 66, 49]), [1, 0])

    def test_all_seven_calls_in_one_list(self):
        sky = entry(1, SKY)
        first = entry(2, port("P", PORT))
        second = entry(2, port("Por", FLAT))
        table = entry(3, lesser())
        expected = [4, 0, 0, 0, 4]
        expected += [2 + len(sky), 0, len(sky)] + sky
        expected += [1, -1]
        expected += [2 + len(first), 0, len(first)] + first
        expected += [3, 0, 1, 10]
        expected += [3 + len(SKY), 0, 0, len(SKY)] + row(SKY)
        expected += [1, -4]
        expected += [2 + len(second), 0, len(second)] + second
        expected += [2 + len(table), 0, len(table)] + table
        expected += [6 + len(lesser()), 0, 3] + row("Les") + [len(lesser())] + row(lesser())
        expected += [4, 0, 1, 1, 4 + len(sky) + len(second) + len(table)]
        expected += [2, 2, 0, 2, 3, 0, 1, -4, 1, -5]
        kept = row("TDB1") + sky + second + table
        expected += [2 + len(kept), 0, len(kept)] + kept
        expected += [1, 0, 2, 2, 0, 1, -4]
        kept = saved((2, port("Q", FLAT)))
        expected += [2 + len(kept), 0, len(kept)] + kept
        self.assertEqual(answers(CALLS), expected)

    def test_what_is_handed_in_is_unchanged(self):
        calls = list(CALLS)
        answers(calls)
        self.assertEqual(calls, CALLS)

    def test_two_times_in_a_row(self):
        first = answers(CALLS)
        kept = list(first)
        self.assertEqual(answers(CALLS), kept)
        first.clear()
        self.assertEqual(answers(CALLS), kept)
        self.assertEqual(answers([2]), [4, 0, 0, 0, 4])

    def test_whole_numbers_alone(self):
        answered = answers(CALLS)
        self.assertIs(type(answered), list)
        self.assertEqual({type(number) for number in answered}, {int})

    def test_300_calls(self):
        sky = sky_of_length(4096)
        answered = answers(tell(1, sky) + text(1, 0) * 299)
        self.assertEqual(len(answered), 3 + 4105 + 299 * (4 + 4096))
        self.assertEqual(answered[-4096:], row(sky))
        self.assertEqual(answers([2] * 300), [4, 0, 0, 0, 4] * 300)
        self.assertEqual(answers([5] * 300), [6, 0, 4, 84, 68, 66, 49] * 300)

    def test_300_calls_of_all_kinds(self):
        book = saved((1, row(SKY)), (2, port("Por", PORT)))
        turns = []
        expected = []
        for i in range(37):
            name = f"L{i}"
            kept = row("TDB1") + entry(1, SKY) + entry(2, port("Por", PORT)) + entry(3, lesser(name))
            turns += [load(book), tell(3, lesser(name)), find(name), save(), size(), text(1, 0), play(entry(4, name)),
                      find(name)]
            expected += [[0], [0, 9 + len(lesser(name))] + entry(3, lesser(name)), [3, 0], [0, len(kept)] + kept,
                         [0, 1, 1, len(kept)], [0, 0, len(SKY)] + row(SKY), [0, 1, 9 + len(name)], [-4]]
        turns += [load([])] * 4
        expected += [[-5]] * 4
        self.assertEqual(len(turns), 300)
        self.assertLessEqual(sum(map(len, turns)), 30000)
        self.assertEqual(ask(*turns), expected)

    def test_a_large_book_saved_300_times(self):
        sky = sky_of_length(4096)
        waves = "".join([f"wave w{i:03} 12.3456 123.456\n" for i in range(70)])
        told = [(1, row(sky))] + [(2, port(f"P{i}", FLAT + waves)) for i in range(12)]
        calls = [number for kind, payload in told for number in tell(kind, payload)]
        self.assertLessEqual(len(calls), 30000 - 287)
        kept = saved(*told)
        self.assertGreater(len(kept), 20000)
        answered = answers(calls + [5] * 287)
        self.assertEqual(answered[-287 * (3 + len(kept)):], ([2 + len(kept), 0, len(kept)] + kept) * 287)

    def test_30000_numbers(self):
        for call in (tell(1, [10] * 29900), play([10] * 29900), load([84] * 29900),
                     load((row("TDB1") + entry(1, []) * 3322)[:29900]), find([65] * 1000)):
            calls = call + [2] * 97
            self.assertLessEqual(len(calls), 30000)
            self.assertEqual(answers(calls)[-5:], [4, 0, 0, 0, 4])


if __name__ == "__main__":
    unittest.main()
