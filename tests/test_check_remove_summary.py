"""Operations 8, 9 and 15: judging an assignment, removing a hand, and what is given."""

import unittest
from itertools import combinations, permutations, product
from random import Random

from tests.helper import ALL_PAIRS, BIG, ask, ask_many, ask_one, expected_assignment, one_behind_another, rows_of

THREE_PAIRS = [0, 1, 0, 2, 1, 2]
EIGHT_FOURS = list(range(32))


def check(n, hands, rows):
    """The answer to check_assignment with these rows, when these hands are given."""
    return ask((6, n, hands), (8, rows))[1]


def together(hands):
    """The number of rows that these hands can show together."""
    return len({row for hand in hands for row in rows_of(hand)})


class CheckAssignment(unittest.TestCase):
    def test_valid_assignments(self):
        self.assertEqual(check(2, THREE_PAIRS, [1, 0, 2]), [0, 1])
        self.assertEqual(check(2, THREE_PAIRS, [0, 2, 1]), [0, 1])
        self.assertEqual(check(3, [0, 1, 2, 0, 1, 3], [2, 0, 0, 3]), [0, 1])

    def test_the_same_cards_in_another_arrangement_are_another_row(self):
        self.assertEqual(check(3, [0, 1, 2, 0, 1, 3], [0, 1, 1, 0]), [0, 1])
        self.assertEqual(check(3, [0, 1, 2, 0, 1, 3], [0, 1, 0, 1]), [0, 0])

    def test_row_that_its_hand_can_not_show(self):
        for rows in ([2, 0, 1], [1, 1, 2], [1, 0, 0], [51, 0, 2], [1, 0, 3], [1, 2, 0]):
            with self.subTest(rows=rows):
                self.assertEqual(check(2, THREE_PAIRS, rows), [0, 0])
        # Another hand can show each of them.
        self.assertEqual(check(2, [0, 1, 2, 3], [2, 0]), [0, 0])

    def test_two_equal_rows(self):
        self.assertEqual(check(2, THREE_PAIRS, [0, 0, 1]), [0, 0])
        self.assertEqual(check(2, THREE_PAIRS, [1, 2, 2]), [0, 0])
        self.assertEqual(check(2, THREE_PAIRS, [1, 0, 1]), [0, 0])

    def test_each_arrangement_of_the_cards_of_a_row(self):
        for hand in ([3, 9], [0, 25, 51], [0, 9, 30, 51]):
            rows = rows_of(hand)
            calls = [(6, len(hand), hand)] + [(8, list(row)) for row in rows]
            self.assertEqual(ask(*calls), [[0, 1]] + [[0, 1]] * len(rows))

    def test_row_with_a_card_twice_or_a_strange_one(self):
        for row in ([0, 0], [1, 1], [0, 3], [3, 0], [51, 51]):
            with self.subTest(row=row):
                self.assertEqual(check(3, [0, 1, 2], row), [0, 0])
        for row in ([0, 1, 0], [2, 2, 2], [0, 1, 4], [4, 1, 0]):
            with self.subTest(row=row):
                self.assertEqual(check(4, [0, 1, 2, 3], row), [0, 0])

    def test_wrong_number_of_cards(self):
        for rows in ([], [1, 0], [1, 0, 2, 2], [1] * 24):
            with self.subTest(rows=rows):
                self.assertEqual(check(2, THREE_PAIRS, rows), [-3])
        for rows in ([], [0], [0, 1, 2], [0, 1, 1, 0]):
            with self.subTest(rows=rows):
                self.assertEqual(check(3, [0, 1, 2], rows), [-3])

    def test_24_cards_and_25(self):
        rows = one_behind_another([EIGHT_FOURS[start + 1:start + 4] for start in range(0, 32, 4)])
        self.assertEqual(check(4, EIGHT_FOURS, rows), [0, 1])
        self.assertEqual(check(4, EIGHT_FOURS, rows[:-1] + [0]), [0, 0])
        self.assertEqual(check(4, EIGHT_FOURS, rows[:-1]), [-3])
        self.assertEqual(check(4, EIGHT_FOURS, rows + [0]), [-1])
        self.assertEqual(check(4, EIGHT_FOURS, [0] * 30), [-1])
        self.assertEqual(check(2, THREE_PAIRS, [0] * 25), [-1])

    def test_card_outside_its_range(self):
        for wrong in (-1, 52, BIG, -BIG):
            for rows in ([wrong, 0, 2], [1, wrong, 2], [1, 0, wrong], [wrong], [1, 0, 2, wrong], [wrong] * 25):
                with self.subTest(rows=rows):
                    self.assertEqual(check(2, THREE_PAIRS, rows), [-1])
        self.assertEqual(check(2, [0, 51], [0]), [0, 1])
        self.assertEqual(check(2, [0, 51], [51]), [0, 1])

    def test_no_given_hands(self):
        self.assertEqual(ask((8, []), (8, [0]), (8, [0, 1]), (8, [52])), [[0, 1], [-3], [-3], [-1]])
        self.assertEqual(ask((6, 4, []), (8, []), (8, [0, 1, 2])), [[0, 0], [0, 1], [-3]])
        self.assertEqual(ask((6, 2, [0, 1]), (9, 1), (8, []), (8, [0]))[2:], [[0, 1], [-3]])

    def test_every_choice_of_rows(self):
        for hands in ([(0, 1), (0, 2), (1, 2)], [(0, 1), (0, 2), (0, 3), (1, 2)], [(0, 1, 2), (0, 1, 3)]):
            n = len(hands[0])
            lists = list(product(range(4), repeat=(n - 1) * len(hands)))
            valid = {tuple(one_behind_another(rows)) for rows in product(*[rows_of(hand) for hand in hands])
                     if len(set(rows)) == len(rows)}
            for start in range(0, len(lists), 99):
                part = lists[start:start + 99]
                answered = ask((6, n, one_behind_another(hands)), *[(8, list(rows)) for rows in part])
                self.assertEqual(answered[1:], [[0, int(rows in valid)] for rows in part])

    def test_judging_changes_nothing(self):
        answered = ask((6, 2, THREE_PAIRS), (8, [1, 0, 2]), (8, [0, 0, 0]), (8, []), (8, [52]), (15,), (7,))
        self.assertEqual(answered, [[0, 3], [0, 1], [0, 0], [-3], [-1], [0, 2, 3, 3], [0, 1, 1, 0, 2]])


class RemoveHand(unittest.TestCase):
    def test_first_middle_and_last_hand(self):
        hands = [[0, 1], [0, 2], [3, 4], [5, 6], [6, 7]]
        for number in (1, 3, 5):
            left = hands[:number - 1] + hands[number:]
            answered = ask((6, 2, one_behind_another(hands)), (9, number), (7,), (15,),
                           (8, [hand[0] for hand in left]), (8, [hand[1] for hand in left]))
            valid = [int(len({hand[place] for hand in left}) == 4) for place in (0, 1)]
            self.assertEqual(answered, [[0, 5], [0, 4], expected_assignment(left), [0, 2, 4, together(left)],
                                        [0, valid[0]], [0, valid[1]]])

    def test_later_hands_move_up(self):
        answered = ask((6, 2, [0, 1, 2, 3, 4, 5]), (9, 2), (7,), (9, 2), (7,), (9, 1), (7,))
        self.assertEqual(answered[1:], [[0, 2], [0, 1, 1, 5], [0, 1], [0, 1, 1], [0, 0], [0, 1]])

    def test_a_deficient_set_goes(self):
        answered = ask((6, 2, ALL_PAIRS), (9, 6), (7,), (9, 1), (7,), (15,))
        self.assertEqual(answered[1:], [[0, 5], [0, 0, 5, 0, 1, 2, 3, 4, 4], [0, 4], [0, 1, 2, 0, 1, 3], [0, 2, 4, 4]])

    def test_number_outside_its_range(self):
        for number in (0, 9, -1, BIG, -BIG):
            for hands in ([], [0, 1], THREE_PAIRS, list(range(16))):
                with self.subTest(number=number, hands=hands):
                    answered = ask((6, 2, hands), (15,), (9, number), (15,))
                    self.assertEqual(answered[2], [-1])
                    self.assertEqual(answered[3], answered[1])

    def test_number_beyond_the_last_hand(self):
        for count in range(9):
            for number in range(1, 9):
                with self.subTest(count=count, number=number):
                    answered = ask((6, 2, list(range(2 * count))), (9, number), (15,))
                    if number > count:
                        self.assertEqual(answered[1:], [[-4], [0, 2, count, 2 * count]])
                    else:
                        self.assertEqual(answered[1:], [[0, count - 1], [0, 2, count - 1, 2 * count - 2]])
        self.assertEqual(ask((9, 1), (9, 8), (15,)), [[-4], [-4], [0, 2, 0, 0]])

    def test_size_remains_when_no_hand_is_left(self):
        for n, hand, rows in ((2, [0, 1], 2), (3, [0, 1, 2], 6), (4, [0, 1, 2, 3], 24)):
            answered = ask((6, n, hand), (15,), (9, 1), (15,), (9, 1), (15,), (7,))
            self.assertEqual(answered, [[0, 1], [0, n, 1, rows], [0, 0], [0, n, 0, 0], [-4], [0, n, 0, 0], [0, 1]])

    def test_eight_hands_removed_one_by_one(self):
        calls = [(6, 4, EIGHT_FOURS)] + [(9, 1)] * 8 + [(9, 1), (15,)]
        self.assertEqual(ask(*calls), [[0, 8]] + [[0, left] for left in range(7, -1, -1)] + [[-4], [0, 4, 0, 0]])

    def test_the_hands_can_be_set_again(self):
        answered = ask((6, 3, [0, 1, 2, 0, 1, 3]), (9, 1), (6, 2, [4, 5]), (15,), (7,))
        self.assertEqual(answered[1:], [[0, 1], [0, 1], [0, 2, 1, 2], [0, 1, 5]])


class Summary(unittest.TestCase):
    def test_at_the_beginning(self):
        self.assertEqual(ask_one(15), [0, 2, 0, 0])

    def test_no_hands_of_another_size(self):
        for n in (2, 3, 4):
            self.assertEqual(ask((6, n, []), (15,)), [[0, 0], [0, n, 0, 0]])

    def test_hands_that_share_rows(self):
        self.assertEqual(ask((6, 2, ALL_PAIRS), (15,))[1], [0, 2, 6, 4])
        self.assertEqual(ask((6, 2, THREE_PAIRS), (15,))[1], [0, 2, 3, 3])
        # The two rows of the cards 0 and 1 are shared.
        self.assertEqual(ask((6, 3, [0, 1, 2, 0, 1, 3]), (15,))[1], [0, 3, 2, 10])
        self.assertEqual(ask((6, 4, [0, 1, 2, 3, 0, 1, 2, 4]), (15,))[1], [0, 4, 2, 42])

    def test_hands_that_share_none(self):
        self.assertEqual(ask((6, 4, EIGHT_FOURS), (15,))[1], [0, 4, 8, 192])
        self.assertEqual(ask((6, 3, [0, 1, 2, 0, 3, 4]), (15,))[1], [0, 3, 2, 12])

    def test_every_choice_of_hands(self):
        draw = Random(15)
        calls = []
        expected = []
        for n in (2, 3, 4):
            for count in range(9):
                for turn in range(10):
                    hands = draw.sample(list(combinations(range(n + 3), n)), count)
                    calls.extend([(6, n, one_behind_another(hands)), (15,)])
                    expected.extend([[0, count], [0, n, count, together(hands)]])
        self.assertEqual(ask_many(calls), expected)

    def test_a_failed_operation_changes_nothing(self):
        failing = [(0, 3, 9, [0, 1, 2]), (1, 3, 3, [2, 1]), (2, 19), (3, 4, 14, []), (4, 1, 2, [1]), (5, []),
                   (6, 4, [0]), (6, 5, []), (6, 3, [2, 1, 0]), (6, 2, [0, 1, 0, 1]), (6, 2, list(range(18))),
                   (6, 2, [0] * 40), (8, []), (8, [52]), (9, 0), (9, 9), (9, 4), (10, 1, []), (11, [0, 0]),
                   (12, 0, 1, 0), (13, 0, [0]), (14, 0, 0)]
        calls = [(6, 2, THREE_PAIRS)]
        for call in failing:
            calls.extend([call, (15,), (7,)])
        answered = ask(*calls)
        for place, call in enumerate(failing):
            with self.subTest(call=call):
                refused, summary, found = answered[3 * place + 1:3 * place + 4]
                self.assertTrue(len(refused) == 1 and refused[0] < 0)
                self.assertEqual([summary, found], [[0, 2, 3, 3], [0, 1, 1, 0, 2]])


class AnyOrder(unittest.TestCase):
    """Drawn calls about the given hands, compared with a list of hands that is kept here."""

    def drawn_call(self, draw, n, hands):
        """A call and what it answers; also n and the hands after it."""
        kind = draw.choice([6, 7, 8, 8, 9, 9, 15])
        if kind == 6:
            n = draw.choice([2, 2, 3, 4])
            hands = draw.sample(list(combinations(range(n + 2), n)), draw.randrange(7))
            return (6, n, one_behind_another(hands)), [0, len(hands)], n, hands
        if kind == 7:
            return (7,), expected_assignment(hands), n, hands
        if kind == 8:
            rows = [draw.choice(rows_of(hand)) for hand in hands]
            return (8, one_behind_another(rows)), [0, int(len(set(rows)) == len(rows))], n, hands
        if kind == 15:
            return (15,), [0, n, len(hands), together(hands)], n, hands
        number = draw.randrange(1, 9)
        if number > len(hands):
            return (9, number), [-4], n, hands
        hands = hands[:number - 1] + hands[number:]
        return (9, number), [0, len(hands)], n, hands

    def test_drawn_calls(self):
        for seed in range(30):
            draw = Random(seed)
            n, hands = 2, []
            calls = []
            expected = []
            for turn in range(100):
                call, answer, n, hands = self.drawn_call(draw, n, hands)
                calls.append(call)
                expected.append(answer)
            self.assertEqual(ask(*calls), expected)

    def test_pairs_removed_from_every_order(self):
        calls = []
        expected = []
        for order in permutations([(0, 1), (0, 2), (1, 2), (1, 3)]):
            for number in range(1, 5):
                left = order[:number - 1] + order[number:]
                calls.extend([(6, 2, one_behind_another(order)), (9, number), (7,), (15,)])
                expected.extend([[0, 4], [0, 3], expected_assignment(left), [0, 2, 3, together(left)]])
        self.assertEqual(ask_many(calls), expected)


if __name__ == "__main__":
    unittest.main()
