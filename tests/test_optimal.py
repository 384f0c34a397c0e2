"""Operations 0 to 2 and 14: the optimal scheme."""

import unittest
from itertools import combinations, permutations
from math import comb, factorial, perm

from tests.helper import BIG, ask_many, ask_one


def row_and_hidden(n, hand):
    """The document's words, with the arrangements listed one by one."""
    position = sum(hand) % n
    hidden = hand[position]
    others = [card for card in hand if card != hidden]
    return list(permutations(others))[(hidden - position) // n], hidden


class EncodeHand(unittest.TestCase):
    def test_ordinary_hands(self):
        self.assertEqual(ask_one(0, 3, 8, [1, 4, 7]), [0, 2, 4, 7, 1])
        self.assertEqual(ask_one(0, 2, 3, [0, 2]), [0, 1, 2, 0])
        # 10 + 20 + 30 + 40 + 50 = 150, position 0, number 10 // 5 = 2 of 24
        self.assertEqual(ask_one(0, 5, 52, [10, 20, 30, 40, 50]), [0, 4, 20, 40, 30, 50, 10])

    def test_hand_of_one_card(self):
        self.assertEqual(ask_one(0, 1, 1, [0]), [0, 0, 0])

    def test_range_of_n_and_deck(self):
        self.assertEqual(ask_one(0, 0, 1, [0]), [-1])
        self.assertEqual(ask_one(0, 6, 52, [0, 1, 2, 3, 4]), [-1])
        self.assertEqual(ask_one(0, 1, 0, [0]), [-1])
        self.assertEqual(ask_one(0, 5, 53, [0, 1, 2, 3, 4]), [-1])
        self.assertEqual(ask_one(0, 5, 52, [47, 48, 49, 50, 51])[0], 0)

    def test_just_playable_and_one_card_more(self):
        for n, deck in ((1, 1), (2, 3), (3, 8), (4, 27)):
            with self.subTest(n=n):
                hand = list(range(n))
                self.assertEqual(ask_one(0, n, deck, hand)[0], 0)
                self.assertEqual(ask_one(0, n, deck + 1, hand), [-5])

    def test_list_of_greatest_length_and_one_longer(self):
        self.assertEqual(ask_one(0, 5, 52, [0, 1, 2, 3, 4])[0], 0)
        self.assertEqual(ask_one(0, 4, 27, [0, 1, 2, 3, 4]), [-3])
        self.assertEqual(ask_one(0, 5, 52, [0, 1, 2, 3, 4, 5]), [-1])
        self.assertEqual(ask_one(0, 5, 52, list(range(8))), [-1])

    def test_not_a_hand(self):
        for hand in ([], [1, 4], [1, 4, 6, 7], [4, 1, 7], [1, 1, 7], [1, 4, 8], [1, 4, 51]):
            with self.subTest(hand=hand):
                self.assertEqual(ask_one(0, 3, 8, hand), [-3])

    def test_deck_smaller_than_a_hand(self):
        self.assertEqual(ask_one(0, 3, 2, [0, 1]), [-3])
        self.assertEqual(ask_one(0, 3, 2, [0, 1, 2]), [-3])

    def test_card_outside_its_range(self):
        self.assertEqual(ask_one(0, 3, 8, [-1, 4, 7]), [-1])
        self.assertEqual(ask_one(0, 3, 8, [1, 4, 52]), [-1])

    def test_order_of_errors(self):
        self.assertEqual(ask_one(0, 3, 9, [7, 4, 52]), [-1])
        self.assertEqual(ask_one(0, 3, 9, [0] * 6), [-1])
        self.assertEqual(ask_one(0, 3, 9, [7, 4, 1]), [-5])

    def test_greatest_numbers_in_every_place(self):
        for big in (-BIG, BIG):
            for call in ((0, big, 8, [1, 4, 7]), (0, 3, big, [1, 4, 7]), (0, 3, 8, [big, 4, 7]),
                         (0, 3, 8, [1, big, 7]), (0, 3, 8, [1, 4, big])):
                with self.subTest(call=call):
                    self.assertEqual(ask_one(*call), [-1])


class DecodeRow(unittest.TestCase):
    def test_ordinary_rows(self):
        self.assertEqual(ask_one(1, 3, 8, [4, 7]), [0, 1])
        self.assertEqual(ask_one(1, 5, 52, [20, 40, 30, 50]), [0, 10])

    def test_row_of_no_card(self):
        self.assertEqual(ask_one(1, 1, 1, []), [0, 0])

    def test_range_of_n_and_deck(self):
        self.assertEqual(ask_one(1, 0, 1, []), [-1])
        self.assertEqual(ask_one(1, 6, 52, [0, 1, 2, 3]), [-1])
        self.assertEqual(ask_one(1, 1, 0, []), [-1])
        self.assertEqual(ask_one(1, 5, 53, [0, 1, 2, 3]), [-1])

    def test_just_playable_and_one_card_more(self):
        for n, deck in ((1, 1), (2, 3), (3, 8), (4, 27)):
            with self.subTest(n=n):
                row = list(range(n - 1))
                self.assertEqual(ask_one(1, n, deck, row)[0], 0)
                self.assertEqual(ask_one(1, n, deck + 1, row), [-5])

    def test_list_of_greatest_length_and_one_longer(self):
        self.assertEqual(ask_one(1, 5, 52, [0, 1, 2, 3])[0], 0)
        self.assertEqual(ask_one(1, 4, 27, [0, 1, 2, 3]), [-3])
        self.assertEqual(ask_one(1, 5, 52, [0, 1, 2, 3, 4]), [-1])

    def test_not_a_row(self):
        for row in ([], [4], [4, 7, 1], [4, 4], [4, 8], [51, 4]):
            with self.subTest(row=row):
                self.assertEqual(ask_one(1, 3, 8, row), [-3])

    def test_no_card_determined(self):
        # The only hand of the deck hides card 0 (sum 3) and shows 1 2.
        self.assertEqual(ask_one(1, 3, 3, [1, 2]), [0, 0])
        self.assertEqual(ask_one(1, 3, 3, [2, 1]), [-7])
        self.assertEqual(ask_one(1, 3, 3, [0, 1]), [-7])
        # The whole deck is the row, and so no card is left.
        self.assertEqual(ask_one(1, 3, 2, [0, 1]), [-7])

    def test_order_of_errors(self):
        self.assertEqual(ask_one(1, 3, 9, [4, 52]), [-1])
        self.assertEqual(ask_one(1, 3, 9, [4, 4]), [-5])
        self.assertEqual(ask_one(1, 3, 3, [2, 2]), [-3])

    def test_greatest_numbers_in_every_place(self):
        for big in (-BIG, BIG):
            for call in ((1, big, 8, [4, 7]), (1, 3, big, [4, 7]), (1, 3, 8, [big, 7]), (1, 3, 8, [4, big])):
                with self.subTest(call=call):
                    self.assertEqual(ask_one(*call), [-1])


class MaxDeckSize(unittest.TestCase):
    def test_every_n(self):
        for n in range(1, 19):
            self.assertEqual(ask_one(2, n), [0, factorial(n) + n - 1])
        self.assertEqual(ask_one(2, 3), [0, 8])
        self.assertEqual(ask_one(2, 18), [0, 6402373705728017])

    def test_outside_the_range(self):
        for n in (0, 19, -1, BIG, -BIG):
            self.assertEqual(ask_one(2, n), [-1])


class HandAndRowCount(unittest.TestCase):
    def test_ordinary_decks(self):
        self.assertEqual(ask_one(14, 3, 8), [0, 56, 56])
        self.assertEqual(ask_one(14, 3, 9), [0, 84, 72])
        self.assertEqual(ask_one(14, 5, 52), [0, 2598960, 6497400])
        self.assertEqual(ask_one(14, 1, 1), [0, 1, 1])
        self.assertEqual(ask_one(14, 1, 52), [0, 52, 1])

    def test_deck_smaller_than_a_hand(self):
        self.assertEqual(ask_one(14, 2, 1), [0, 0, 1])
        self.assertEqual(ask_one(14, 5, 4), [0, 0, 24])
        self.assertEqual(ask_one(14, 5, 3), [0, 0, 0])
        self.assertEqual(ask_one(14, 5, 1), [0, 0, 0])

    def test_every_n_and_deck(self):
        for n in range(1, 6):
            for deck in range(1, 53):
                with self.subTest(n=n, deck=deck):
                    self.assertEqual(ask_one(14, n, deck), [0, comb(deck, n), perm(deck, n - 1)])

    def test_small_decks_counted_one_by_one(self):
        for n in range(1, 6):
            for deck in range(1, 9):
                hands = list(combinations(range(deck), n))
                rows = list(permutations(range(deck), n - 1))
                self.assertEqual(ask_one(14, n, deck), [0, len(hands), len(rows)])

    def test_outside_the_range(self):
        for wrong in (0, -1, BIG, -BIG):
            for right in (1, 3, 5):
                self.assertEqual(ask_one(14, wrong, right), [-1])
                self.assertEqual(ask_one(14, right, wrong), [-1])
            self.assertEqual(ask_one(14, wrong, wrong), [-1])
        self.assertEqual(ask_one(14, 6, 52), [-1])
        self.assertEqual(ask_one(14, 5, 53), [-1])


class EveryHand(unittest.TestCase):
    """Requirement 1, and the rows that determine no card."""

    def check_hands(self, n, deck, hands):
        """Checks each hand there and back; gives the hidden cards by their rows."""
        hidden_by_row = {}
        encoded = ask_many([(0, n, deck, list(hand)) for hand in hands])
        for hand, answer in zip(hands, encoded):
            row, hidden = row_and_hidden(n, list(hand))
            self.assertEqual(answer, [0, n - 1] + list(row) + [hidden])
            hidden_by_row[row] = hidden
        decoded = ask_many([(1, n, deck, list(row)) for row in hidden_by_row])
        self.assertEqual(decoded, [[0, hidden] for hidden in hidden_by_row.values()])
        self.assertEqual(len(hidden_by_row), len(hands))
        return hidden_by_row

    def check_deck(self, n, deck):
        hidden_by_row = self.check_hands(n, deck, list(combinations(range(deck), n)))
        rows = list(permutations(range(deck), n - 1))
        decoded = ask_many([(1, n, deck, list(row)) for row in rows])
        for row, answer in zip(rows, decoded):
            if row in hidden_by_row:
                self.assertEqual(answer, [0, hidden_by_row[row]])
            else:
                self.assertEqual(answer, [-7])

    def test_small_decks_whole(self):
        for n, decks in ((1, (1,)), (2, range(1, 4)), (3, range(2, 9)), (4, range(3, 11)), (5, (7, 8))):
            for deck in decks:
                with self.subTest(n=n, deck=deck):
                    self.check_deck(n, deck)

    def test_every_hand_of_the_greatest_deck_of_four(self):
        self.check_hands(4, 27, list(combinations(range(27), 4)))

    def test_hands_of_five_of_52_cards(self):
        self.check_hands(5, 52, list(combinations(range(52), 5))[::1709])


if __name__ == "__main__":
    unittest.main()
