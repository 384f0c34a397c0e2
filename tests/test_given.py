"""Operations 5 to 7: the rows of hands, the given hands and their assignment."""

import unittest
from itertools import combinations, permutations

from tests.helper import ALL_PAIRS, BIG, ask, ask_many, ask_one, expected_assignment, one_behind_another, rows_of

EIGHT_PAIRS = [0, 1, 2, 3, 4, 5, 6, 7, 8, 9, 10, 11, 12, 13, 14, 15]


class PossibleRows(unittest.TestCase):
    def test_ordinary_hands(self):
        self.assertEqual(ask_one(5, [3, 9]), [0, 2, 9, 3])
        self.assertEqual(ask_one(5, [1, 4, 7]), [0, 6, 4, 7, 7, 4, 1, 7, 7, 1, 1, 4, 4, 1])

    def test_hand_of_one_card_can_show_the_row_of_no_card(self):
        self.assertEqual(ask_one(5, [0]), [0, 1])
        self.assertEqual(ask_one(5, [51]), [0, 1])

    def test_hand_of_the_greatest_length_and_one_longer(self):
        hand = [0, 9, 30, 51]
        self.assertEqual(ask_one(5, hand), [0, 24] + one_behind_another(rows_of(hand)))
        self.assertEqual(ask_one(5, [0, 1, 2, 3, 4]), [-1])

    def test_not_a_hand(self):
        for hand in ([], [3, 3], [9, 3], [1, 2, 3, 3], [1, 3, 2]):
            with self.subTest(hand=hand):
                self.assertEqual(ask_one(5, hand), [-3])

    def test_outside_the_range_is_checked_first(self):
        for hand in ([-1], [52], [52, 52], [5, 4, 3, 2, 1], [9, -1]):
            with self.subTest(hand=hand):
                self.assertEqual(ask_one(5, hand), [-1])

    def test_greatest_numbers_in_every_place(self):
        for big in (-BIG, BIG):
            for hand in ([big], [big, 9], [3, big]):
                with self.subTest(hand=hand):
                    self.assertEqual(ask_one(5, hand), [-1])


class SetHands(unittest.TestCase):
    def test_ordinary_hands(self):
        self.assertEqual(ask_one(6, 2, [0, 1, 0, 2, 1, 2]), [0, 3])
        self.assertEqual(ask_one(6, 3, [0, 1, 51, 0, 1, 2]), [0, 2])
        self.assertEqual(ask_one(6, 4, [0, 1, 2, 3]), [0, 1])

    def test_replaces_the_hands(self):
        answered = ask((6, 2, [0, 1, 2, 3]), (7,), (6, 3, [4, 5, 6]), (7,), (6, 2, []), (7,))
        self.assertEqual(answered, [[0, 2], [0, 1, 1, 3], [0, 1], [0, 1, 5, 6], [0, 0], [0, 1]])

    def test_size_of_the_hands(self):
        answered = ask((15,), (6, 3, [0, 1, 2]), (15,), (6, 4, []), (15,), (6, 2, [1, 0]), (6, 5, []), (15,))
        self.assertEqual(answered, [[0, 2, 0, 0], [0, 1], [0, 3, 1, 6], [0, 0], [0, 4, 0, 0], [-3], [-1], [0, 4, 0, 0]])

    def test_eight_hands_and_nine(self):
        self.assertEqual(ask_one(6, 2, EIGHT_PAIRS), [0, 8])
        self.assertEqual(ask_one(6, 2, EIGHT_PAIRS + [16, 17]), [-3])
        self.assertEqual(ask_one(6, 3, list(range(24))), [0, 8])
        self.assertEqual(ask_one(6, 3, list(range(27))), [-3])

    def test_list_of_greatest_length_and_one_longer(self):
        self.assertEqual(ask_one(6, 4, list(range(32))), [0, 8])
        self.assertEqual(ask_one(6, 2, list(range(32))), [-3])
        self.assertEqual(ask_one(6, 4, list(range(33))), [-1])
        self.assertEqual(ask_one(6, 4, list(range(40))), [-1])

    def test_range_of_n(self):
        for n in (1, 5, 0, -1):
            self.assertEqual(ask_one(6, n, []), [-1])

    def test_not_given_hands(self):
        for n, hands in ((2, [0]), (2, [0, 1, 2]), (3, [0, 1, 2, 3]), (4, [0, 1]), (2, [0, 1, 3, 2]), (2, [1, 1]),
                         (2, [0, 1, 2, 3, 0, 1]), (3, [0, 1, 2, 0, 1, 2])):
            with self.subTest(n=n, hands=hands):
                self.assertEqual(ask_one(6, n, hands), [-3])

    def test_outside_the_range_is_checked_first(self):
        self.assertEqual(ask_one(6, 2, [1, 0, 52]), [-1])
        self.assertEqual(ask_one(6, 2, [0, -1]), [-1])
        self.assertEqual(ask_one(6, 5, [1, 0]), [-1])
        self.assertEqual(ask_one(6, 2, [0] * 33), [-1])

    def test_greatest_numbers_in_every_place(self):
        for big in (-BIG, BIG):
            for call in ((6, big, [0, 1]), (6, 2, [big, 1]), (6, 2, [0, big]), (6, 2, [0, 1, 2, big])):
                with self.subTest(call=call):
                    self.assertEqual(ask_one(*call), [-1])


class FindAssignment(unittest.TestCase):
    """Requirement 3 too: the answers are compared with all assignments and all sets."""

    def check(self, n, sets_of_hands):
        calls = []
        expected = []
        for hands in sets_of_hands:
            calls.append((6, n, one_behind_another(hands)))
            calls.append((7,))
            expected.append([0, len(hands)])
            expected.append(expected_assignment(hands))
        self.assertEqual(ask_many(calls), expected)

    def test_no_hands(self):
        self.assertEqual(ask((7,)), [[0, 1]])
        self.assertEqual(ask((6, 4, []), (7,)), [[0, 0], [0, 1]])

    def test_valid_assignment(self):
        self.assertEqual(ask((6, 2, [0, 1, 0, 2, 1, 2]), (7,))[1], [0, 1, 1, 0, 2])
        # The first row of the first hand, 1, is the only one that would leave the others too few.
        self.assertEqual(ask((6, 2, [0, 1, 1, 2, 1, 3, 2, 3]), (7,))[1], [0, 1, 0, 2, 1, 3])

    def test_no_valid_assignment(self):
        self.assertEqual(ask((6, 2, ALL_PAIRS), (7,))[1], [0, 0, 5, 0, 1, 2, 3, 4, 4])
        # Hand 0 has no part in it.
        self.assertEqual(ask((6, 2, [8, 9] + ALL_PAIRS), (7,))[1], [0, 0, 5, 1, 2, 3, 4, 5, 4])

    def test_refused_hands_change_nothing(self):
        refused = [(6, 2, [1, 0]), (6, 5, []), (6, 2, list(range(18))), (6, 3, [BIG]), (6, 2, [0, 1, 0, 1])]
        answered = ask((6, 2, ALL_PAIRS), *refused, (7,))
        self.assertEqual(answered[1:], [[-3], [-1], [-3], [-1], [-3], [0, 0, 5, 0, 1, 2, 3, 4, 4]])
        self.assertEqual(ask((6, 2, [1, 0]), (7,)), [[-3], [0, 1]])

    def test_finding_changes_nothing(self):
        self.assertEqual(ask((6, 2, [0, 1, 0, 2]), (7,), (7,))[1:], [[0, 1, 1, 2], [0, 1, 1, 2]])

    def test_every_choice_of_pairs(self):
        pairs = list(combinations(range(5), 2))
        self.check(2, [chosen for size in range(1, 9) for chosen in combinations(pairs, size)])

    def test_pairs_in_any_order(self):
        self.check(2, list(permutations(combinations(range(4), 2)))[::3])

    def test_hands_of_three(self):
        triples = list(combinations(range(5), 3))
        self.check(3, [chosen for size in range(1, 6) for chosen in permutations(triples, size)][::37])

    def test_hands_of_four(self):
        fours = list(combinations(range(6), 4))
        self.check(4, [chosen for size in range(1, 9) for chosen in combinations(fours, size)][::97])

    def test_a_hundred_calls_with_eight_hands_of_four(self):
        hands = list(combinations(range(6), 4))[:8]
        expected = expected_assignment(hands)
        calls = [(6, 4, one_behind_another(hands))] + [(7,)] * 99
        self.assertEqual(ask(*calls), [[0, 8]] + [expected] * 99)


if __name__ == "__main__":
    unittest.main()
