"""How a list of calls is read and how its answers are given back."""

import unittest
from random import Random

from hiddencard.trick import answers
from tests.helper import ALL_PAIRS, BIG, ask, ask_one, flat

EXAMPLES = [
    ((2, 3), [0, 8]),
    ((0, 3, 8, [1, 4, 7]), [0, 2, 4, 7, 1]),
    ((1, 3, 8, [4, 7]), [0, 1]),
    ((14, 3, 8), [0, 56, 56]),
    ((14, 3, 9), [0, 84, 72]),
    ((3, 4, 13, [0, 5, 14, 27, 40]), [0, 4, 0, 40, 14, 27, 5]),
    ((4, 4, 13, [0, 40, 14, 27]), [0, 5]),
    ((5, [3, 9]), [0, 2, 9, 3]),
    ((6, 2, [0, 1, 0, 2, 1, 2]), [0, 3]),
    ((7,), [0, 1, 1, 0, 2]),
    ((8, [1, 0, 2]), [0, 1]),
    ((6, 2, ALL_PAIRS), [0, 6]),
    ((7,), [0, 0, 5, 0, 1, 2, 3, 4, 4]),
    ((15,), [0, 2, 6, 4]),
]

# Each of the sixteen operations; what is answered doesn't depend on the calls ahead.
ROUND = [
    ((6, 3, [0, 1, 2, 0, 1, 3, 0, 2, 3]), [0, 3]),
    # 2 + 9 + 16 + 26 = 53, position 1, number (9 - 1) // 4 = 2 of 6
    ((0, 4, 27, [2, 9, 16, 26]), [0, 3, 16, 2, 26, 9]),
    ((7,), [0, 1, 1, 2, 1, 3, 2, 3]),
    ((13, 5, [4, 0]), [0, 16]),
    ((8, [2, 1, 3, 1, 3, 2]), [0, 1]),
    ((1, 4, 27, [16, 2, 26]), [0, 9]),
    ((9, 2), [0, 2]),
    ((15,), [0, 3, 2, 10]),
    ((10, 4, [9, 3, 6]), [0, 3, 9, 3, 6]),
    ((2, 5), [0, 124]),
    ((11, [9, 3, 6]), [0, 4]),
    ((3, 2, 3, [0, 2, 4]), [0, 2, 2, 4, 0]),
    ((12, 5, 2, 16), [0, 2, 4, 0]),
    ((4, 2, 3, [2, 4]), [0, 0]),
    ((14, 4, 27), [0, 17550, 17550]),
    ((5, [1, 4, 7]), [0, 6, 4, 7, 7, 4, 1, 7, 7, 1, 1, 4, 4, 1]),
]

ABOUT_GIVEN_HANDS = (6, 7, 8, 9, 15)


class Locked(list):
    """A list that can be read, but refuses each change, also one that is taken back later."""

    def refuse(self, *args, **kwargs):
        raise AssertionError("the list that was handed in is changed")

    __setitem__ = __delitem__ = __iadd__ = __imul__ = refuse
    append = clear = extend = insert = pop = remove = reverse = sort = refuse


class Answers(unittest.TestCase):
    def test_examples_as_one_list(self):
        calls = [2, 3, 0, 3, 8, 3, 1, 4, 7, 1, 3, 8, 2, 4, 7, 14, 3, 8, 14, 3, 9, 3, 4, 13, 5, 0, 5, 14, 27, 40,
                 4, 4, 13, 4, 0, 40, 14, 27, 5, 2, 3, 9, 6, 2, 6, 0, 1, 0, 2, 1, 2, 7, 8, 3, 1, 0, 2,
                 6, 2, 12, 0, 1, 0, 2, 0, 3, 1, 2, 1, 3, 2, 3, 7, 15]
        self.assertEqual(calls, flat([call for call, answer in EXAMPLES]))
        self.assertEqual(answers(calls), [
            2, 0, 8, 5, 0, 2, 4, 7, 1, 2, 0, 1, 3, 0, 56, 56, 3, 0, 84, 72, 7, 0, 4, 0, 40, 14, 27, 5, 2, 0, 5,
            4, 0, 2, 9, 3, 2, 0, 3, 5, 0, 1, 1, 0, 2, 2, 0, 1, 2, 0, 6, 9, 0, 0, 5, 0, 1, 2, 3, 4, 4, 4, 0, 2, 6, 4])

    def test_examples_one_by_one_and_in_any_order(self):
        alone = [(call, answer) for call, answer in EXAMPLES if call[0] not in ABOUT_GIVEN_HANDS]
        for call, answer in alone:
            self.assertEqual(ask_one(*call), answer)
        self.assertEqual(ask(*[call for call, answer in alone[::-1]]), [answer for call, answer in alone[::-1]])

    def test_each_of_the_sixteen_operations(self):
        self.assertEqual(sorted(call[0] for call, answer in ROUND), list(range(16)))
        self.assertEqual(ask(*[call for call, answer in ROUND]), [answer for call, answer in ROUND])

    def test_operations_in_drawn_orders(self):
        given = [pair for pair in ROUND if pair[0][0] in ABOUT_GIVEN_HANDS]
        others = [pair for pair in ROUND if pair[0][0] not in ABOUT_GIVEN_HANDS]
        draw = Random(16)
        for turn in range(50):
            # The calls about the given hands keep their order, the others come anywhere between them.
            mixed = list(given)
            for pair in others:
                mixed.insert(draw.randrange(len(mixed) + 1), pair)
            self.assertEqual(ask(*[call for call, answer in mixed]), [answer for call, answer in mixed])

    def test_refusals_stand_alone(self):
        self.assertEqual(answers([2, 0, 2, 3, 0, 3, 9, 0, 5, 0, 1, 3, 3, 2, 2, 1]),
                         [1, -1, 2, 0, 8, 1, -5, 1, -3, 1, -7])
        self.assertEqual(answers([9, 1, 8, 1, 0, 12, 1, 2, 0, 14, 0, 1, 10, 1, 0, 11, 1, 52, 13, 0, 1, 0, 15]),
                         [1, -4, 1, -3, 1, -5, 1, -1, 1, -5, 1, -1, 1, -3, 4, 0, 2, 0, 0])

    def test_lists_of_the_greatest_length_are_read_whole(self):
        for length in (6, 8):
            calls = [(op, 5, 10, [7] * length) for op in (0, 1, 3, 4)] + [(5, [7] * length), (6, 2, [7] * 40)]
            for call in calls:
                with self.subTest(call=call):
                    expected = [-3] if call[0] == 3 and length == 6 else [-1]
                    self.assertEqual(ask(call, (2, 3)), [expected, [0, 8]])
        for call in ((8, [7] * 30), (10, 0, [7] * 16), (11, [7] * 16), (13, 8, [7] * 16)):
            with self.subTest(call=call):
                self.assertEqual(ask(call, (2, 3)), [[-1], [0, 8]])

    def test_lists_of_no_number(self):
        calls = [(0, 1, 1, []), (1, 1, 1, []), (3, 1, 3, []), (4, 1, 3, []), (5, []), (6, 2, []), (8, []),
                 (10, 0, []), (11, []), (13, 0, []), (2, 3)]
        self.assertEqual(ask(*calls), [[-3], [0, 0], [-3], [-3], [-3], [0, 0], [0, 1], [0, 0], [0, 0], [0, 0], [0, 8]])

    def test_a_hundred_calls(self):
        self.assertEqual(answers([7] * 100), [2, 0, 1] * 100)
        self.assertEqual(answers([15] * 100), [4, 0, 2, 0, 0] * 100)
        calls = [(6, 2, [BIG] * 40)] * 100
        self.assertEqual(len(flat(calls)), 4300)
        self.assertEqual(ask(*calls), [[-1]] * 100)

    def test_a_hundred_calls_of_all_sixteen_operations(self):
        pairs = (ROUND * 7)[:100]
        self.assertEqual(len(pairs), 100)
        calls = flat([call for call, answer in pairs])
        before = list(calls)
        expected = []
        for call, answer in pairs:
            expected.append(len(answer))
            expected.extend(answer)
        for turn in range(3):
            self.assertEqual(answers(calls), expected)
            self.assertEqual(calls, before)
        self.assertEqual(answers(Locked(calls)), expected)

    def test_greatest_numbers_are_read_as_numbers(self):
        for big in (-BIG, BIG):
            calls = [(0, big, big, [big] * 8), (1, big, big, [big] * 8), (2, big), (3, big, big, [big] * 8),
                     (4, big, big, [big] * 8), (5, [big] * 8), (6, big, [big] * 40), (8, [big] * 30), (9, big),
                     (10, big, [big] * 16), (11, [big] * 16), (12, big, big, big), (13, big, [big] * 16),
                     (14, big, big)]
            self.assertEqual(ask(*calls, (7,), (15,)), [[-1]] * 14 + [[0, 1], [0, 2, 0, 0]])

    def test_list_handed_in_stays_and_nothing_is_kept(self):
        calls = flat([(7,), (15,)] + [call for call, answer in EXAMPLES + ROUND])
        before = list(calls)
        first = answers(calls)
        self.assertEqual(calls, before)
        second = answers(calls)
        self.assertEqual(calls, before)
        self.assertEqual(first, second)
        self.assertEqual(first[:8], [2, 0, 1, 4, 0, 2, 0, 0])
        first.clear()
        self.assertEqual(answers(calls), second)

    def test_each_request_begins_anew(self):
        self.assertEqual(ask((6, 4, [0, 1, 2, 3]), (15,)), [[0, 1], [0, 4, 1, 24]])
        self.assertEqual(ask((15,), (9, 1), (8, []), (7,)), [[0, 2, 0, 0], [-4], [0, 1], [0, 1]])

    def test_list_handed_in_is_never_changed_for_a_while(self):
        calls = Locked(flat([call for call, answer in EXAMPLES + ROUND]))
        self.assertEqual(answers(calls), answers(list(calls)))
        refused = Locked(flat([(9, 0), (8, [52]), (10, -1, [3, 3]), (11, [3, 3]), (12, 1, 2, 0), (13, 0, [0])]))
        self.assertEqual(answers(refused), [1, -1, 1, -1, 1, -1, 1, -3, 1, -5, 1, -3])

    def test_answers_are_whole_numbers_in_a_list(self):
        given_back = answers(flat([call for call, answer in EXAMPLES + ROUND]))
        self.assertIs(type(given_back), list)
        self.assertEqual({type(number) for number in given_back}, {int})


if __name__ == "__main__":
    unittest.main()
