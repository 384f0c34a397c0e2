"""Operations 10 to 13: the numbers of arrangements and of sequences."""

import unittest
from itertools import permutations
from math import factorial, perm
from random import Random

from tests.helper import BIG, ask_many, ask_one

TWELVE = [3, 4, 9, 11, 17, 20, 28, 29, 33, 40, 50, 51]
EVERY_CARD = list(range(52))


def counted_index(order, cards):
    """The number of a list by counting, place by place, the lists that have a smaller card there."""
    number = 0
    for place, card in enumerate(cards):
        smaller = [other for other in order if other < card and other not in cards[:place]]
        number += len(smaller) * perm(len(order) - place - 1, len(cards) - place - 1)
    return number


class ArrangementAt(unittest.TestCase):
    def test_ordinary_cards(self):
        self.assertEqual(ask_one(10, 0, [1, 4, 7]), [0, 3, 1, 4, 7])
        self.assertEqual(ask_one(10, 3, [1, 4, 7]), [0, 3, 4, 7, 1])
        self.assertEqual(ask_one(10, 5, [1, 4, 7]), [0, 3, 7, 4, 1])

    def test_no_card_and_one_card(self):
        self.assertEqual(ask_one(10, 0, []), [0, 0])
        self.assertEqual(ask_one(10, 1, []), [-5])
        for card in (0, 7, 51):
            self.assertEqual(ask_one(10, 0, [card]), [0, 1, card])
            self.assertEqual(ask_one(10, 1, [card]), [-5])

    def test_twelve_cards_and_thirteen(self):
        self.assertEqual(ask_one(10, 0, TWELVE), [0, 12] + TWELVE)
        self.assertEqual(ask_one(10, 1, TWELVE), [0, 12] + TWELVE[:10] + [51, 50])
        self.assertEqual(ask_one(10, factorial(11), TWELVE), [0, 12, 4, 3] + TWELVE[2:])
        self.assertEqual(ask_one(10, 0, TWELVE + [0]), [-1])
        self.assertEqual(ask_one(10, 0, list(range(16))), [-1])

    def test_cards_in_any_order(self):
        for cards in permutations([51, 0, 8, 30]):
            self.assertEqual(ask_one(10, 0, list(cards)), [0, 4, 0, 8, 30, 51])
            self.assertEqual(ask_one(10, 14, list(cards)), [0, 4, 30, 8, 0, 51])

    def test_every_number_in_lexicographic_order(self):
        cards = [50, 2, 31, 0, 19, 44]
        for count in range(7):
            expected = [[0, count] + list(order) for order in permutations(sorted(cards[:count]))]
            self.assertEqual(ask_many([(10, k, cards[:count]) for k in range(len(expected))]), expected)

    def test_last_number_and_one_more(self):
        for count in range(13):
            with self.subTest(count=count):
                cards = TWELVE[:count]
                self.assertEqual(ask_one(10, factorial(count) - 1, cards), [0, count] + cards[::-1])
                self.assertEqual(ask_one(10, factorial(count), cards), [-5])
                self.assertEqual(ask_one(10, BIG, cards), [-5])

    def test_number_below_zero(self):
        for k in (-1, -BIG):
            for cards in ([], [3], TWELVE):
                self.assertEqual(ask_one(10, k, cards), [-1])

    def test_two_equal_cards(self):
        for cards in ([3, 3], [3, 8, 3], [0, 51, 20, 51], TWELVE[:11] + [3]):
            for k in (0, 1, factorial(len(cards)), BIG):
                with self.subTest(cards=cards, k=k):
                    self.assertEqual(ask_one(10, k, cards), [-3])

    def test_order_of_errors(self):
        for k, cards in ((-1, [3, 3]), (BIG, [52, 52]), (9, [-1, -1]), (0, [3] * 13), (-1, TWELVE + [3])):
            with self.subTest(k=k, cards=cards):
                self.assertEqual(ask_one(10, k, cards), [-1])

    def test_card_outside_its_range(self):
        for wrong in (-1, 52, BIG, -BIG):
            for cards in ([wrong], [wrong, 3, 8], [3, 8, wrong], TWELVE[:5] + [wrong] + TWELVE[6:]):
                self.assertEqual(ask_one(10, 0, cards), [-1])


class ArrangementIndex(unittest.TestCase):
    def test_ordinary_cards(self):
        self.assertEqual(ask_one(11, [1, 4, 7]), [0, 0])
        self.assertEqual(ask_one(11, [4, 7, 1]), [0, 3])
        self.assertEqual(ask_one(11, [7, 4, 1]), [0, 5])

    def test_no_card_and_one_card(self):
        self.assertEqual(ask_one(11, []), [0, 0])
        self.assertEqual(ask_one(11, [0]), [0, 0])
        self.assertEqual(ask_one(11, [51]), [0, 0])

    def test_twelve_cards_and_thirteen(self):
        self.assertEqual(ask_one(11, TWELVE), [0, 0])
        self.assertEqual(ask_one(11, TWELVE[::-1]), [0, 479001599])
        self.assertEqual(ask_one(11, TWELVE + [0]), [-1])
        self.assertEqual(ask_one(11, list(range(16))), [-1])

    def test_every_arrangement_in_lexicographic_order(self):
        for count in range(7):
            orders = list(permutations(sorted([50, 2, 31, 0, 19, 44][:count])))
            expected = [[0, k] for k in range(len(orders))]
            self.assertEqual(ask_many([(11, list(order)) for order in orders]), expected)

    def test_two_equal_cards(self):
        for cards in ([3, 3], [3, 8, 3], [0, 51, 20, 51], TWELVE[:11] + [3]):
            with self.subTest(cards=cards):
                self.assertEqual(ask_one(11, cards), [-3])

    def test_outside_the_range_is_checked_first(self):
        for cards in ([52], [-1], [3, 3, 52], [-1, -1], [3] * 13, [BIG], [8, -BIG]):
            with self.subTest(cards=cards):
                self.assertEqual(ask_one(11, cards), [-1])

    def test_inverse_of_arrangement_at(self):
        draw = Random(11)
        for count in range(13):
            cards = draw.sample(EVERY_CARD, count)
            numbers = [0, factorial(count) - 1] + [draw.randrange(factorial(count)) for turn in range(40)]
            arrangements = [answer[2:] for answer in ask_many([(10, k, cards) for k in numbers])]
            self.assertEqual([counted_index(cards, order) for order in arrangements], numbers)
            self.assertEqual(ask_many([(11, order) for order in arrangements]), [[0, k] for k in numbers])

    def test_arrangement_at_is_its_inverse(self):
        draw = Random(10)
        for count in range(13):
            order = draw.sample(EVERY_CARD, count)
            k = ask_one(11, order)[1]
            self.assertEqual(k, counted_index(order, order))
            self.assertEqual(ask_one(10, k, draw.sample(order, count)), [0, count] + order)


class SequenceAt(unittest.TestCase):
    def test_ordinary_numbers(self):
        self.assertEqual(ask_one(12, 3, 2, 0), [0, 2, 0, 1])
        self.assertEqual(ask_one(12, 3, 2, 3), [0, 2, 1, 2])
        self.assertEqual(ask_one(12, 3, 2, 5), [0, 2, 2, 1])
        self.assertEqual(ask_one(12, 52, 3, 51 * 50 + 50), [0, 3, 1, 2, 0])

    def test_every_number_in_lexicographic_order(self):
        for n in range(7):
            for k in range(n + 1):
                expected = [[0, k] + list(sequence) for sequence in permutations(range(n), k)]
                self.assertEqual(ask_many([(12, n, k, m) for m in range(len(expected))]), expected)
                self.assertEqual(ask_one(12, n, k, len(expected)), [-5])

    def test_range_of_n(self):
        self.assertEqual(ask_one(12, 0, 0, 0), [0, 0])
        self.assertEqual(ask_one(12, 0, 0, 1), [-5])
        self.assertEqual(ask_one(12, 0, 1, 0), [-5])
        self.assertEqual(ask_one(12, 52, 1, 51), [0, 1, 51])
        for n in (-1, 53, BIG, -BIG):
            self.assertEqual(ask_one(12, n, 0, 0), [-1])

    def test_range_of_k(self):
        self.assertEqual(ask_one(12, 52, 0, 0), [0, 0])
        self.assertEqual(ask_one(12, 52, 0, 1), [-5])
        self.assertEqual(ask_one(12, 52, 10, 0), [0, 10] + EVERY_CARD[:10])
        for k in (-1, 11, BIG, -BIG):
            for n in (0, 10, 52):
                self.assertEqual(ask_one(12, n, k, 0), [-1])

    def test_k_greater_than_n(self):
        for n in range(10):
            for k in range(n + 1, 11):
                self.assertEqual(ask_one(12, n, k, 0), [-5])
                self.assertEqual(ask_one(12, n, k, 1), [-5])
        self.assertEqual(ask_one(12, 10, 10, 0), [0, 10] + EVERY_CARD[:10])

    def test_last_number_and_one_more(self):
        for n in (1, 5, 10, 11, 51, 52):
            for k in range(min(n, 10) + 1):
                with self.subTest(n=n, k=k):
                    self.assertEqual(ask_one(12, n, k, perm(n, k) - 1), [0, k] + EVERY_CARD[:n][::-1][:k])
                    self.assertEqual(ask_one(12, n, k, perm(n, k)), [-5])
                    self.assertEqual(ask_one(12, n, k, BIG), [-5])

    def test_number_below_zero(self):
        for m in (-1, -BIG):
            for n, k in ((0, 0), (3, 2), (3, 4), (52, 10)):
                self.assertEqual(ask_one(12, n, k, m), [-1])

    def test_outside_the_range_is_checked_first(self):
        for n, k, m in ((3, 11, 6), (3, 4, -1), (53, 10, BIG), (-1, 0, 1), (-1, -1, -1), (0, -1, 9)):
            with self.subTest(n=n, k=k, m=m):
                self.assertEqual(ask_one(12, n, k, m), [-1])


class SequenceIndex(unittest.TestCase):
    def test_ordinary_sequences(self):
        self.assertEqual(ask_one(13, 3, [0, 1]), [0, 0])
        self.assertEqual(ask_one(13, 3, [1, 2]), [0, 3])
        self.assertEqual(ask_one(13, 3, [2, 1]), [0, 5])
        self.assertEqual(ask_one(13, 52, [1, 2, 0]), [0, 51 * 50 + 50])

    def test_no_card(self):
        for n in (0, 1, 10, 52):
            self.assertEqual(ask_one(13, n, []), [0, 0])

    def test_every_sequence_in_lexicographic_order(self):
        for n in range(7):
            for k in range(n + 1):
                sequences = list(permutations(range(n), k))
                expected = [[0, m] for m in range(len(sequences))]
                self.assertEqual(ask_many([(13, n, list(sequence)) for sequence in sequences]), expected)

    def test_range_of_n(self):
        self.assertEqual(ask_one(13, 0, [0]), [-3])
        self.assertEqual(ask_one(13, 1, [0]), [0, 0])
        self.assertEqual(ask_one(13, 52, [51]), [0, 51])
        for n in (-1, 53, BIG, -BIG):
            for cards in ([], [0], [3, 3]):
                self.assertEqual(ask_one(13, n, cards), [-1])

    def test_ten_cards_and_eleven(self):
        self.assertEqual(ask_one(13, 52, EVERY_CARD[:10]), [0, 0])
        self.assertEqual(ask_one(13, 52, EVERY_CARD[::-1][:10]), [0, perm(52, 10) - 1])
        self.assertEqual(ask_one(13, 10, EVERY_CARD[:10][::-1]), [0, factorial(10) - 1])
        self.assertEqual(ask_one(13, 52, EVERY_CARD[:11]), [-1])
        self.assertEqual(ask_one(13, 52, EVERY_CARD[:16]), [-1])

    def test_two_equal_cards(self):
        for cards in ([3, 3], [3, 8, 3], [0, 51, 20, 51], EVERY_CARD[:9] + [0]):
            with self.subTest(cards=cards):
                self.assertEqual(ask_one(13, 52, cards), [-3])

    def test_card_that_is_n_or_more(self):
        for cards in ([9], [10], [51], [0, 9], [9, 0], [1, 51, 2], EVERY_CARD[:10]):
            with self.subTest(cards=cards):
                self.assertEqual(ask_one(13, 9, cards), [-3])
        self.assertEqual(ask_one(13, 9, [8]), [0, 8])

    def test_outside_the_range_is_checked_first(self):
        for n, cards in ((9, [52]), (9, [-1]), (9, [3, 3, 52]), (52, [52]), (9, [3] * 11), (9, [BIG]), (9, [8, -BIG])):
            with self.subTest(n=n, cards=cards):
                self.assertEqual(ask_one(13, n, cards), [-1])

    def test_inverse_of_sequence_at(self):
        draw = Random(13)
        for n in range(53):
            for k in range(min(n, 10) + 1):
                numbers = [0, perm(n, k) - 1] + [draw.randrange(perm(n, k)) for turn in range(4)]
                sequences = [answer[2:] for answer in ask_many([(12, n, k, m) for m in numbers])]
                self.assertEqual([counted_index(range(n), sequence) for sequence in sequences], numbers)
                self.assertEqual(ask_many([(13, n, sequence) for sequence in sequences]), [[0, m] for m in numbers])

    def test_sequence_at_is_its_inverse(self):
        draw = Random(12)
        for n in range(53):
            for k in range(min(n, 10) + 1):
                sequence = draw.sample(range(n), k)
                m = ask_one(13, n, sequence)[1]
                self.assertEqual(m, counted_index(range(n), sequence))
                self.assertEqual(ask_one(12, n, k, m), [0, k] + sequence)


if __name__ == "__main__":
    unittest.main()
