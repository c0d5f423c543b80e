import unittest

from tests.helper import FLAT, PORT, SKY, entry, lesser, play, port, row, size, sky_of_length, tell, text
from tidebooks.book import answers

CALLS = (size() + tell(1, SKY) + tell(7, [1, 2]) + tell(2, port("P", PORT)) + play(entry(4, row("P")) + [3, 0])
         + text(1, 0) + text(2, 0) + tell(2, port("Por", FLAT)) + tell(3, lesser()) + text(3, 0) + size())


class Answers(unittest.TestCase):
    def test_each_call_by_itself(self):
        self.assertEqual(answers([2]), [4, 0, 0, 0, 4])
        self.assertEqual(answers([3, 1, 0]), [3, 0, 0, 0])
        self.assertEqual(answers([3, 2, 0]), [1, -4])
        self.assertEqual(answers([1, 0]), [3, 0, 0, 0])
        self.assertEqual(answers([0, 0, 0]), [1, -1])
        told = entry(1, [])
        self.assertEqual(answers([0, 1, 0]), [11, 0, 9] + told)

    def test_several_calls_in_one_list(self):
        sky = entry(1, SKY)
        first = entry(2, port("P", PORT))
        second = entry(2, port("Por", FLAT))
        table = entry(3, lesser())
        expected = [4, 0, 0, 0, 4]
        expected += [2 + len(sky), 0, len(sky)] + sky
        expected += [1, -1]
        expected += [2 + len(first), 0, len(first)] + first
        expected += [3, 0, 1, 10]
        expected += [3 + len(SKY), 0, 0, len(SKY)] + row(SKY)
        expected += [1, -4]
        expected += [2 + len(second), 0, len(second)] + second
        expected += [2 + len(table), 0, len(table)] + table
        expected += [6 + len(lesser()), 0, 3] + row("Les") + [len(lesser())] + row(lesser())
        expected += [4, 0, 1, 1, 4 + len(sky) + len(second) + len(table)]
        self.assertEqual(answers(CALLS), expected)

    def test_what_is_handed_in_is_unchanged(self):
        calls = list(CALLS)
        answers(calls)
        self.assertEqual(calls, CALLS)

    def test_two_times_in_a_row(self):
        first = answers(CALLS)
        kept = list(first)
        self.assertEqual(answers(CALLS), kept)
        first.clear()
        self.assertEqual(answers(CALLS), kept)
        self.assertEqual(answers([2]), [4, 0, 0, 0, 4])

    def test_whole_numbers_alone(self):
        answered = answers(CALLS)
        self.assertIs(type(answered), list)
        self.assertEqual({type(number) for number in answered}, {int})

    def test_300_calls(self):
        sky = sky_of_length(4096)
        answered = answers(tell(1, sky) + text(1, 0) * 299)
        self.assertEqual(len(answered), 3 + 4105 + 299 * (4 + 4096))
        self.assertEqual(answered[-4096:], row(sky))
        self.assertEqual(answers([2] * 300), [4, 0, 0, 0, 4] * 300)

    def test_30000_numbers(self):
        for call in (tell(1, [10] * 29900), play([10] * 29900)):
            calls = call + [2] * 97
            self.assertLessEqual(len(calls), 30000)
            self.assertEqual(answers(calls)[-5:], [4, 0, 0, 0, 4])


if __name__ == "__main__":
    unittest.main()
