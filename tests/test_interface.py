"""How a list of calls is read and how its answers are given back."""

import unittest

from hiddencard.trick import answers
from tests.helper import BIG, ask, flat

EXAMPLES = [
    ((2, 3), [0, 8]),
    ((0, 3, 8, [1, 4, 7]), [0, 2, 4, 7, 1]),
    ((1, 3, 8, [4, 7]), [0, 1]),
    ((3, 4, 13, [0, 5, 14, 27, 40]), [0, 4, 0, 40, 14, 27, 5]),
    ((4, 4, 13, [0, 40, 14, 27]), [0, 5]),
    ((5, [3, 9]), [0, 2, 9, 3]),
    ((6, 2, [0, 1, 0, 2, 1, 2]), [0, 3]),
    ((7,), [0, 1, 1, 0, 2]),
    ((6, 2, [0, 1, 0, 2, 0, 3, 1, 2, 1, 3, 2, 3]), [0, 6]),
    ((7,), [0, 0, 5, 0, 1, 2, 3, 4, 4]),
]


class Answers(unittest.TestCase):
    def test_examples_as_one_list(self):
        calls = [2, 3, 0, 3, 8, 3, 1, 4, 7, 1, 3, 8, 2, 4, 7, 3, 4, 13, 5, 0, 5, 14, 27, 40,
                 4, 4, 13, 4, 0, 40, 14, 27, 5, 2, 3, 9, 6, 2, 6, 0, 1, 0, 2, 1, 2, 7,
                 6, 2, 12, 0, 1, 0, 2, 0, 3, 1, 2, 1, 3, 2, 3, 7]
        self.assertEqual(calls, flat([call for call, answer in EXAMPLES]))
        self.assertEqual(answers(calls), [
            2, 0, 8, 5, 0, 2, 4, 7, 1, 2, 0, 1, 7, 0, 4, 0, 40, 14, 27, 5, 2, 0, 5, 4, 0, 2, 9, 3,
            2, 0, 3, 5, 0, 1, 1, 0, 2, 2, 0, 6, 9, 0, 0, 5, 0, 1, 2, 3, 4, 4])

    def test_examples_in_any_order(self):
        calls = [call for call, answer in EXAMPLES[:6]]
        expected = [answer for call, answer in EXAMPLES[:6]]
        self.assertEqual(ask(*calls[::-1]), expected[::-1])

    def test_refusals_stand_alone(self):
        self.assertEqual(answers([2, 0, 2, 3, 0, 3, 9, 0, 5, 0, 1, 3, 3, 2, 2, 1]),
                         [1, -1, 2, 0, 8, 1, -5, 1, -3, 1, -7])

    def test_lists_of_the_greatest_length_are_read_whole(self):
        for length in (6, 8):
            calls = [(op, 5, 10, [7] * length) for op in (0, 1, 3, 4)] + [(5, [7] * length), (6, 2, [7] * 40)]
            for call in calls:
                with self.subTest(call=call):
                    expected = [-3] if call[0] == 3 and length == 6 else [-1]
                    self.assertEqual(ask(call, (2, 3)), [expected, [0, 8]])

    def test_a_hundred_calls(self):
        self.assertEqual(answers([7] * 100), [2, 0, 1] * 100)
        calls = [(6, 2, [BIG] * 40)] * 100
        self.assertEqual(len(flat(calls)), 4300)
        self.assertEqual(ask(*calls), [[-1]] * 100)

    def test_greatest_numbers_are_read_as_numbers(self):
        for big in (-BIG, BIG):
            calls = [(0, big, big, [big] * 8), (1, big, big, [big] * 8), (2, big), (3, big, big, [big] * 8),
                     (4, big, big, [big] * 8), (5, [big] * 8), (6, big, [big] * 40)]
            self.assertEqual(ask(*calls, (7,)), [[-1]] * 7 + [[0, 1]])

    def test_list_handed_in_stays_and_nothing_is_kept(self):
        calls = flat([(7,)] + [call for call, answer in EXAMPLES])
        before = list(calls)
        first = answers(calls)
        self.assertEqual(calls, before)
        second = answers(calls)
        self.assertEqual(calls, before)
        self.assertEqual(first, second)
        self.assertEqual(first[:3], [2, 0, 1])
        first.clear()
        self.assertEqual(answers(calls), second)

    def test_answers_are_whole_numbers_in_a_list(self):
        given_back = answers(flat([call for call, answer in EXAMPLES]))
        self.assertIs(type(given_back), list)
        self.assertEqual({type(number) for number in given_back}, {int})


if __name__ == "__main__":
    unittest.main()
