"""Requirements 1 to 3, over the whole program as it is called."""

import unittest
from itertools import combinations
from random import Random

from tests.helper import ask, ask_many, ask_one, one_behind_another, rows_of


class HiddenIsDetermined(unittest.TestCase):
    """Requirement 1: drawn hands of every playable deck, in both schemes."""

    def check(self, encode, decode, first, second, hands):
        shown = ask_many([(encode, first, second, hand) for hand in hands])
        rows = []
        for hand, answer in zip(hands, shown):
            row = answer[2:-1]
            self.assertEqual(answer[:2], [0, len(hand) - 1])
            self.assertEqual(sorted(row + answer[-1:]), hand)
            rows.append(row)
        determined = ask_many([(decode, first, second, row) for row in rows])
        self.assertEqual(determined, [[0, answer[-1]] for answer in shown])

    def test_optimal_scheme(self):
        draw = Random(1)
        for n in range(1, 6):
            for deck in range(n, min(52, ask_one(2, n)[1]) + 1):
                hands = [sorted(draw.sample(range(deck), n)) for turn in range(25)]
                with self.subTest(n=n, deck=deck):
                    self.check(0, 1, n, deck, hands)

    def test_scheme_by_suits(self):
        draw = Random(2)
        for suits, greatest in ((1, 3), (2, 3), (3, 5), (4, 13), (5, 10)):
            # One suit of one rank has fewer cards than a hand.
            for ranks in range(2, greatest + 1):
                hands = [sorted(draw.sample(range(suits * ranks), suits + 1)) for turn in range(100)]
                with self.subTest(suits=suits, ranks=ranks):
                    self.check(3, 4, suits, ranks, hands)


class PlayableDecks(unittest.TestCase):
    """Requirement 2, for every n and every deck that has at least n cards."""

    def test_no_more_hands_than_rows_if_and_only_if_playable(self):
        for n in range(1, 6):
            greatest = ask_one(2, n)[1]
            for deck in range(n, 53):
                with self.subTest(n=n, deck=deck):
                    ok, hand_count, row_count = ask_one(14, n, deck)
                    self.assertEqual(ok, 0)
                    playable = hand_count <= row_count
                    self.assertEqual(deck <= greatest, playable)
                    shown = ask_one(0, n, deck, list(range(n)))
                    self.assertEqual(shown == [-5], not playable)
                    self.assertEqual(ask_one(1, n, deck, list(range(n - 1))) == [-5], not playable)


class AssignedOrDeficient(unittest.TestCase):
    """Requirement 3, with check_assignment as the judge of what find_assignment answers."""

    def check_found(self, n, hands):
        """Checks what is answered for these hands; gives whether they have an assignment."""
        given = (6, n, one_behind_another(hands))
        answered, found = ask(given, (7,))
        self.assertEqual(answered, [0, len(hands)])
        self.assertEqual(found[0], 0)
        if found[1] == 1:
            self.assertEqual(ask(given, (8, found[2:]))[1], [0, 1])
            return True
        members = found[3:-1]
        self.assertEqual(found[2], len(members))
        self.assertEqual(members, sorted(set(members)))
        shown = {row for member in members for row in rows_of(hands[member])}
        self.assertEqual(found[-1], len(shown))
        # More hands than rows: no assignment can be valid.
        self.assertLess(len(shown), len(members))
        self.check_drawn_rows(given, hands)
        return False

    def check_drawn_rows(self, given, hands):
        """Checks that drawn rows are not judged to be valid."""
        draw = Random(len(hands))
        calls = []
        for turn in range(9):
            calls.append((8, one_behind_another([draw.choice(rows_of(hand)) for hand in hands])))
        self.assertEqual(ask(given, *calls)[1:], [[0, 0]] * 9)

    def test_drawn_hands(self):
        draw = Random(3)
        for n in (2, 3, 4):
            for cards in (n + 2, n + 4, 52):
                for turn in range(60):
                    # A hand that is drawn twice is given once.
                    drawn = {tuple(sorted(draw.sample(range(cards), n))) for hand in range(draw.randrange(9))}
                    hands = draw.sample(sorted(drawn), len(drawn))
                    with self.subTest(n=n, hands=hands):
                        self.check_found(n, hands)

    def test_drawn_pairs_with_and_without_an_assignment(self):
        draw = Random(4)
        found = []
        for cards in (5, 6, 7):
            pairs = list(combinations(range(cards), 2))
            for turn in range(100):
                hands = draw.sample(pairs, draw.randrange(4, 9))
                with self.subTest(hands=hands):
                    found.append(self.check_found(2, hands))
        self.assertGreater(found.count(True), 50)
        self.assertGreater(found.count(False), 50)

    def test_the_first_assignment_ends_with_a_hand_removed(self):
        # What is found stays right while the hands go one by one.
        draw = Random(5)
        for turn in range(40):
            hands = draw.sample(list(combinations(range(6), 2)), 8)
            calls = [(6, 2, one_behind_another(hands))]
            while hands:
                number = draw.randrange(1, len(hands) + 1)
                hands.pop(number - 1)
                calls.append((9, number))
                *before, found = ask(*calls, (7,))
                self.assertEqual(before[-1], [0, len(hands)])
                if found[1] == 1:
                    self.assertEqual(ask(*calls, (8, found[2:]))[-1], [0, 1])
                self.assertEqual(found[1] == 1, self.check_found(2, hands))


if __name__ == "__main__":
    unittest.main()
