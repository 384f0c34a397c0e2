"""Operations 3 and 4: the scheme by suits."""

import unittest
from itertools import combinations, permutations
from math import factorial

from hiddencard.by_suit import shown_and_hidden_by_suit
from tests.helper import BIG, ask_many, ask_one

# The greatest ranks that are playable, for each number of suits.
GREATEST = ((1, 3), (2, 3), (3, 5), (4, 13), (5, 10))


def row_and_hidden(suits, ranks, hand):
    """The document's words, with all pairs and all arrangements listed one by one."""
    pairs = []
    for first, second in sorted(permutations(hand, 2)):
        if first // ranks == second // ranks:
            steps = 1
            while (first % ranks + steps) % ranks != second % ranks:
                steps += 1
            if steps <= factorial(suits - 1):
                pairs.append((first, second, steps))
    first, hidden, steps = pairs[0]
    others = [card for card in hand if card != first and card != hidden]
    return (first,) + list(permutations(others))[steps - 1], hidden


class EncodeBySuit(unittest.TestCase):
    def test_ordinary_hands(self):
        self.assertEqual(ask_one(3, 4, 13, [0, 5, 14, 27, 40]), [0, 4, 0, 40, 14, 27, 5])
        # From 12 upwards to 0 is one step, from 0 to 12 are twelve.
        self.assertEqual(ask_one(3, 4, 13, [0, 12, 14, 27, 40]), [0, 4, 12, 14, 27, 40, 0])
        self.assertEqual(ask_one(3, 1, 3, [0, 2]), [0, 1, 2, 0])

    def test_first_of_several_pairs(self):
        # From 0 to 4 comes ahead of 0 to 5, and of 4 to 5.
        self.assertEqual(ask_one(3, 4, 13, [0, 4, 5, 27, 40]), [0, 4, 0, 27, 40, 5, 4])

    def test_pair_at_the_greatest_distance(self):
        self.assertEqual(ask_one(3, 4, 13, [0, 6, 14, 27, 40]), [0, 4, 0, 40, 27, 14, 6])
        self.assertEqual(ask_one(3, 4, 13, [0, 7, 14, 27, 40]), [0, 4, 7, 40, 27, 14, 0])

    def test_range_of_suits_and_ranks(self):
        self.assertEqual(ask_one(3, 0, 3, [0, 1]), [-1])
        self.assertEqual(ask_one(3, 6, 3, [0, 1, 2, 3, 4, 5]), [-1])
        self.assertEqual(ask_one(3, 1, 0, [0, 1]), [-1])
        self.assertEqual(ask_one(3, 1, 53, [0, 1]), [-1])
        self.assertEqual(ask_one(3, 1, 52, [0, 1]), [-5])
        self.assertEqual(ask_one(3, 5, 1, [0, 1, 2, 3, 4]), [-3])

    def test_just_playable_and_one_rank_more(self):
        for suits, ranks in GREATEST:
            with self.subTest(suits=suits):
                hand = list(range(suits + 1))
                self.assertEqual(ask_one(3, suits, ranks, hand)[0], 0)
                self.assertEqual(ask_one(3, suits, ranks + 1, hand), [-5])

    def test_deck_of_more_than_52_cards(self):
        # By the ranks alone five suits would be playable with up to 49 ranks.
        for ranks in (11, 49, 50, 52):
            self.assertEqual(ask_one(3, 5, ranks, [0, 1, 2, 3, 4, 5]), [-5])

    def test_list_of_greatest_length_and_one_longer(self):
        self.assertEqual(ask_one(3, 5, 10, [0, 1, 2, 3, 4, 5])[0], 0)
        self.assertEqual(ask_one(3, 4, 13, [0, 1, 2, 3, 4, 5]), [-3])
        self.assertEqual(ask_one(3, 5, 10, [0, 1, 2, 3, 4, 5, 6]), [-1])

    def test_not_a_hand(self):
        for hand in ([], [0, 5, 14], [0, 5, 14, 27, 40, 41], [5, 0, 14, 27, 40], [0, 5, 14, 27, 27]):
            with self.subTest(hand=hand):
                self.assertEqual(ask_one(3, 4, 13, hand), [-3])
        self.assertEqual(ask_one(3, 2, 3, [0, 1, 5])[0], 0)
        self.assertEqual(ask_one(3, 2, 3, [0, 1, 6]), [-3])

    def test_deck_smaller_than_a_hand(self):
        self.assertEqual(ask_one(3, 1, 1, [0]), [-3])
        self.assertEqual(ask_one(3, 1, 1, [0, 1]), [-3])

    def test_no_pair_with_a_deck_that_is_too_great(self):
        # A playable deck always has a pair, so no call reaches this.
        self.assertIsNone(shown_and_hidden_by_suit(1, 4, [0, 2]))

    def test_card_outside_its_range(self):
        self.assertEqual(ask_one(3, 4, 13, [-1, 5, 14, 27, 40]), [-1])
        self.assertEqual(ask_one(3, 4, 13, [0, 5, 14, 27, 52]), [-1])

    def test_order_of_errors(self):
        self.assertEqual(ask_one(3, 4, 14, [0, 5, 14, 27, 52]), [-1])
        self.assertEqual(ask_one(3, 4, 14, [0] * 7), [-1])
        self.assertEqual(ask_one(3, 4, 14, [5, 0]), [-5])

    def test_greatest_numbers_in_every_place(self):
        for big in (-BIG, BIG):
            for call in ((3, big, 3, [0, 1, 3]), (3, 2, big, [0, 1, 3]), (3, 2, 3, [big, 1, 3]),
                         (3, 2, 3, [0, big, 3]), (3, 2, 3, [0, 1, big])):
                with self.subTest(call=call):
                    self.assertEqual(ask_one(*call), [-1])


class DecodeBySuit(unittest.TestCase):
    def test_ordinary_rows(self):
        self.assertEqual(ask_one(4, 4, 13, [0, 40, 14, 27]), [0, 5])
        self.assertEqual(ask_one(4, 4, 13, [12, 14, 27, 40]), [0, 0])
        self.assertEqual(ask_one(4, 1, 3, [2]), [0, 0])

    def test_range_of_suits_and_ranks(self):
        self.assertEqual(ask_one(4, 0, 3, []), [-1])
        self.assertEqual(ask_one(4, 6, 3, [0, 1, 2, 3, 4]), [-1])
        self.assertEqual(ask_one(4, 1, 0, [0]), [-1])
        self.assertEqual(ask_one(4, 1, 53, [0]), [-1])
        self.assertEqual(ask_one(4, 1, 52, [0]), [-5])

    def test_just_playable_and_one_rank_more(self):
        for suits, ranks in GREATEST:
            with self.subTest(suits=suits):
                row = [suit * ranks for suit in range(suits)]
                self.assertEqual(ask_one(4, suits, ranks, row), [0, 1])
                self.assertEqual(ask_one(4, suits, ranks + 1, row), [-5])

    def test_list_of_greatest_length_and_one_longer(self):
        self.assertEqual(ask_one(4, 5, 10, [0, 10, 20, 30, 40]), [0, 1])
        self.assertEqual(ask_one(4, 4, 10, [0, 10, 20, 30, 39]), [-3])
        self.assertEqual(ask_one(4, 5, 10, [0, 10, 20, 30, 40, 41]), [-1])

    def test_not_a_row(self):
        for row in ([], [0, 40, 14], [0, 40, 14, 27, 28], [0, 40, 0, 27], [40, 40, 14, 27]):
            with self.subTest(row=row):
                self.assertEqual(ask_one(4, 4, 13, row), [-3])
        self.assertEqual(ask_one(4, 2, 3, [0, 6]), [-3])
        self.assertEqual(ask_one(4, 2, 3, [6, 0]), [-3])

    def test_no_card_determined(self):
        # The card one step up from 0 is already in the row.
        self.assertEqual(ask_one(4, 2, 3, [0, 1]), [-7])
        # The card one step up from 1 is 0, but the first pair of 0 1 is 0 1.
        self.assertEqual(ask_one(4, 1, 2, [1]), [-7])
        # With the card 5 the hand would be 0 1 4 5, whose first pair is 0 1.
        self.assertEqual(ask_one(4, 3, 4, [4, 0, 1]), [-7])
        # A suit of one rank has no card at any distance.
        self.assertEqual(ask_one(4, 1, 1, [0]), [-7])
        # Number 5 asks for a distance of 6, and a suit of 3 ranks has none beyond 2.
        self.assertEqual(ask_one(4, 4, 3, [0, 9, 6, 3]), [-7])

    def test_order_of_errors(self):
        self.assertEqual(ask_one(4, 4, 14, [0, 40, 14, 52]), [-1])
        self.assertEqual(ask_one(4, 4, 14, [0, 0]), [-5])
        self.assertEqual(ask_one(4, 5, 11, [0, 0]), [-5])
        self.assertEqual(ask_one(4, 1, 1, [0, 0]), [-3])

    def test_greatest_numbers_in_every_place(self):
        for big in (-BIG, BIG):
            for call in ((4, big, 3, [0, 3]), (4, 2, big, [0, 3]), (4, 2, 3, [big, 3]), (4, 2, 3, [0, big])):
                with self.subTest(call=call):
                    self.assertEqual(ask_one(*call), [-1])


class EveryHand(unittest.TestCase):
    """Requirement 1, and the rows that determine no card."""

    def check_hands(self, suits, ranks, hands):
        """Checks each hand there and back; gives the hidden cards by their rows."""
        hidden_by_row = {}
        encoded = ask_many([(3, suits, ranks, list(hand)) for hand in hands])
        for hand, answer in zip(hands, encoded):
            row, hidden = row_and_hidden(suits, ranks, hand)
            self.assertEqual(answer, [0, suits] + list(row) + [hidden])
            hidden_by_row[row] = hidden
        decoded = ask_many([(4, suits, ranks, list(row)) for row in hidden_by_row])
        self.assertEqual(decoded, [[0, hidden] for hidden in hidden_by_row.values()])
        self.assertEqual(len(hidden_by_row), len(hands))
        return hidden_by_row

    def check_deck(self, suits, ranks):
        deck = suits * ranks
        hidden_by_row = self.check_hands(suits, ranks, list(combinations(range(deck), suits + 1)))
        rows = list(permutations(range(deck), suits))
        decoded = ask_many([(4, suits, ranks, list(row)) for row in rows])
        for row, answer in zip(rows, decoded):
            if row in hidden_by_row:
                self.assertEqual(answer, [0, hidden_by_row[row]])
            else:
                self.assertEqual(answer, [-7])

    def test_small_decks_whole(self):
        for suits, greatest in ((1, 3), (2, 3), (3, 5), (4, 3), (5, 2)):
            for ranks in range(1, greatest + 1):
                with self.subTest(suits=suits, ranks=ranks):
                    self.check_deck(suits, ranks)

    def test_hands_of_the_greatest_decks(self):
        self.check_hands(4, 13, list(combinations(range(52), 5))[::1709])
        self.check_hands(5, 10, list(combinations(range(0, 50, 2), 6))[::97])
        self.check_hands(5, 10, list(combinations(range(10, 35), 6))[::97])


if __name__ == "__main__":
    unittest.main()
