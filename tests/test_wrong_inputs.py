"""Wrong inputs of all operations: each place at and beyond the ends of its range, and several faults at once."""

import unittest

from tests.helper import BIG, ask

EIGHT_PAIRS = list(range(16))

# For each operation one call that is answered, and the ranges of its whole numbers (None where there is no greatest).
OPERATIONS = [
    ((0, 5, 52, [0, 1, 2, 3, 4]), [(1, 5), (1, 52)]),
    ((1, 5, 52, [0, 1, 2, 3]), [(1, 5), (1, 52)]),
    ((2, 3), [(1, 18)]),
    ((3, 5, 10, [0, 1, 2, 3, 4, 5]), [(1, 5), (1, 52)]),
    ((4, 5, 10, [0, 10, 20, 30, 40]), [(1, 5), (1, 52)]),
    ((5, [0, 1, 2, 3]), []),
    ((6, 4, list(range(32))), [(2, 4)]),
    ((7,), []),
    ((8, [0, 2, 4, 6, 8, 10, 12, 14]), []),
    ((9, 3), [(1, 8)]),
    ((10, 7, [5, 0, 51, 3]), [(0, None)]),
    ((11, [5, 0, 51, 3]), []),
    ((12, 52, 10, 7), [(0, 52), (0, 10), (0, None)]),
    ((13, 52, [5, 0, 51, 3]), [(0, 52)]),
    ((14, 3, 8), [(1, 5), (1, 52)]),
    ((15,), []),
]

# For each operation with a list the greatest length, and the greatest that is ever handed in.
GREATEST_LENGTHS = {0: (5, 8), 1: (4, 8), 3: (6, 8), 4: (5, 8), 5: (4, 8), 6: (32, 40), 8: (24, 30), 10: (12, 16),
                    11: (12, 16), 13: (10, 16)}

# Each call has several faults; behind it the code that comes first.
SEVERAL_FAULTS = [
    ((0, 6, 53, [1, 0, 52]), -1), ((0, 3, 9, [1, 0, 52]), -1), ((0, 0, 9, []), -1), ((0, 3, 9, [1, 0]), -5),
    ((0, 3, 52, [0] * 6), -1), ((0, 3, 9, []), -5), ((0, 1, 2, [0, 0]), -5),
    ((1, 6, 53, [0, 0]), -1), ((1, 3, 9, [0, 52]), -1), ((1, 3, 9, [0] * 5), -1), ((1, 3, 9, [0, 0]), -5),
    ((1, 3, 2, [1, 1]), -3), ((1, 3, 2, [0, 2]), -3), ((1, 2, 4, []), -5),
    ((3, 6, 53, []), -1), ((3, 4, 14, [52]), -1), ((3, 4, 14, [0] * 7), -1), ((3, 4, 14, [1, 0]), -5),
    ((3, 5, 11, []), -5), ((3, 1, 4, [2, 0]), -5),
    ((4, 0, 0, []), -1), ((4, 4, 14, [52]), -1), ((4, 4, 14, [0] * 6), -1), ((4, 4, 14, [0, 0]), -5),
    ((4, 5, 11, []), -5), ((4, 1, 2, [1, 1]), -3), ((4, 2, 3, [0, 6]), -3),
    ((5, [52, 52]), -1), ((5, [1, 0, -1]), -1), ((5, [4, 3, 2, 1, 0]), -1),
    ((6, 5, [1]), -1), ((6, 1, [1, 0]), -1), ((6, 2, [1, 0, 52]), -1), ((6, 2, [0] * 33), -1), ((6, 4, [3, 52]), -1),
    ((8, [52]), -1), ((8, [-1] * 8), -1), ((8, [0] * 25), -1), ((8, []), -3), ((8, [51] * 9), -3),
    ((10, -1, [3, 3]), -1), ((10, BIG, [3, 52, 3]), -1), ((10, BIG, [3] * 13), -1), ((10, BIG, [3, 3]), -3),
    ((10, 2, [3, 3]), -3),
    ((11, [52, 52]), -1), ((11, [3] * 13), -1), ((11, [3, 3, -1]), -1),
    ((12, -1, 11, -1), -1), ((12, 3, 4, -1), -1), ((12, 3, 11, 0), -1), ((12, 53, 10, BIG), -1),
    ((12, -1, 0, 1), -1),
    ((13, 53, [3, 3]), -1), ((13, 2, [3, 52]), -1), ((13, 2, [3] * 11), -1), ((13, -1, [0]), -1),
    ((13, 2, [3, 3]), -3),
    ((14, 0, 53), -1), ((14, 6, 0), -1),
]


def ask_with_hands(call):
    """The answer to the call when eight hands are given, and what the given hands are behind it."""
    return ask((6, 2, EIGHT_PAIRS), call, (15,))[1:]


class WrongInputs(unittest.TestCase):
    def check_refused(self, call, code):
        with self.subTest(call=call):
            self.assertEqual(ask_with_hands(call), [[code], [0, 2, 8, 16]])

    def test_the_calls_themselves_are_answered(self):
        for operation, (call, ranges) in enumerate(OPERATIONS):
            self.assertEqual(call[0], operation)
            self.assertEqual(len(ranges), len([part for part in call[1:] if not isinstance(part, list)]))
            self.assertEqual(ask_with_hands(call)[0][0], 0)

    def test_every_whole_number_outside_its_range(self):
        for call, ranges in OPERATIONS:
            for place, (least, greatest) in enumerate(ranges, start=1):
                wrong = [-BIG, least - 1]
                if greatest is not None:
                    wrong.extend([greatest + 1, BIG])
                for number in wrong:
                    self.check_refused(call[:place] + (number,) + call[place + 1:], -1)

    def test_numbers_without_a_greatest_one(self):
        self.check_refused((10, BIG, [5, 0, 51, 3]), -5)
        self.check_refused((12, 52, 10, BIG), -5)

    def test_every_whole_number_at_the_ends_of_its_range(self):
        for call, ranges in OPERATIONS:
            for place, (least, greatest) in enumerate(ranges, start=1):
                for number in (least, least if greatest is None else greatest):
                    at_end = call[:place] + (number,) + call[place + 1:]
                    with self.subTest(call=at_end):
                        self.assertNotEqual(ask_with_hands(at_end)[0], [-1])

    def test_lists_longer_than_allowed(self):
        for call, ranges in OPERATIONS:
            if call[0] in GREATEST_LENGTHS:
                greatest, handed_in = GREATEST_LENGTHS[call[0]]
                for length in range(greatest + 1, handed_in + 1):
                    self.check_refused(call[:-1] + (list(range(length)),), -1)
                    self.check_refused(call[:-1] + ([7] * length,), -1)
                answer = ask_with_hands(call[:-1] + (list(range(greatest)),))[0]
                self.assertNotEqual(answer, [-1])

    def test_every_place_of_a_list_outside_0_to_51(self):
        for call, ranges in OPERATIONS:
            if call[0] in GREATEST_LENGTHS:
                numbers = call[-1]
                for place in range(len(numbers)):
                    for wrong in (-1, 52, -BIG, BIG):
                        self.check_refused(call[:-1] + (numbers[:place] + [wrong] + numbers[place + 1:],), -1)

    def test_lists_of_one_number(self):
        for call, ranges in OPERATIONS:
            if call[0] in GREATEST_LENGTHS:
                for wrong in (-1, 52, -BIG, BIG):
                    self.check_refused(call[:-1] + ([wrong],), -1)
                for right in (0, 51):
                    self.assertNotEqual(ask_with_hands(call[:-1] + ([right],))[0], [-1])

    def test_several_faults_at_once(self):
        for call, code in SEVERAL_FAULTS:
            self.check_refused(call, code)

    def test_no_such_hand(self):
        answered = ask((6, 2, [0, 1]), (9, 2), (9, 8), (9, 9), (9, 0), (15,))
        self.assertEqual(answered, [[0, 1], [-4], [-4], [-1], [-1], [0, 2, 1, 2]])


if __name__ == "__main__":
    unittest.main()
