"""The given hands and the rows that they can show."""

from hiddencard.assignment import count_together, first_assignment, first_deficient_set, is_assignment
from hiddencard.limits import NOT_THE_CARDS, NO_SUCH_HAND, OUT_OF_RANGE
from hiddencard.limits import are_cards, are_different, is_increasing, within
from hiddencard.ranking import factorial, numbered_arrangement

MOST_HANDS = 8


def rows_of(hand):
    """The rows that the hand can show, as tuples, in their order."""
    rows = []
    for hidden in hand:
        others = [card for card in hand if card != hidden]
        for number in range(factorial(len(others))):
            rows.append(tuple(numbered_arrangement(others, number)))
    return rows


def one_behind_another(rows):
    """The cards of all rows in one list."""
    cards = []
    for row in rows:
        cards.extend(row)
    return cards


def pieces(cards, length):
    """The cards cut into tuples of this length."""
    return [tuple(cards[start:start + length]) for start in range(0, len(cards), length)]


def possible_rows(hand):
    """Operation 5: the number of rows that the hand can show, and these rows."""
    if not are_cards(hand, 4):
        return [OUT_OF_RANGE]
    if len(hand) == 0 or not is_increasing(hand):
        return [NOT_THE_CARDS]
    rows = rows_of(hand)
    return [0, len(rows)] + one_behind_another(rows)


def may_be_given(hands):
    """Whether these are not too many hands, all different."""
    return len(hands) <= MOST_HANDS and all([is_increasing(hand) for hand in hands]) and are_different(hands)


class GivenHands:
    """The given hands of one request, and the number of cards of each of them."""

    def __init__(self):
        self.size = 2
        self.hands = []

    def choices(self):
        """For each hand the rows that it can show."""
        return [rows_of(hand) for hand in self.hands]

    def set_hands(self, n, cards):
        """Operation 6: replaces the given hands; answers their number."""
        if not (within(n, 2, 4) and are_cards(cards, 32)):
            return [OUT_OF_RANGE]
        if len(cards) % n != 0:
            return [NOT_THE_CARDS]
        hands = pieces(cards, n)
        if not may_be_given(hands):
            return [NOT_THE_CARDS]
        self.size = n
        self.hands = hands
        return [0, len(hands)]

    def find_assignment(self):
        """Operation 7: the first assignment, or else the first deficient set."""
        choices = self.choices()
        rows = first_assignment(choices)
        if rows is not None:
            return [0, 1] + one_behind_another(rows)
        members, row_count = first_deficient_set(choices)
        return [0, 0, len(members)] + members + [row_count]

    def check_assignment(self, cards):
        """Operation 8: whether the rows, one behind another, are a valid assignment."""
        if not are_cards(cards, 24):
            return [OUT_OF_RANGE]
        length = self.size - 1
        if len(cards) != length * len(self.hands):
            return [NOT_THE_CARDS]
        return [0, 1 if is_assignment(self.choices(), pieces(cards, length)) else 0]

    def remove_hand(self, number):
        """Operation 9: removes the hand with this number, counted from 1; answers how many are left."""
        if not within(number, 1, MOST_HANDS):
            return [OUT_OF_RANGE]
        if number > len(self.hands):
            return [NO_SUCH_HAND]
        self.hands = self.hands[:number - 1] + self.hands[number:]
        return [0, len(self.hands)]

    def summary(self):
        """Operation 15: the size of the hands, their number, and how many rows they can show together."""
        return [0, self.size, len(self.hands), count_together(self.choices())]
