"""The given hands and the rows that they can show."""

from hiddencard.assignment import first_assignment, first_deficient_set
from hiddencard.limits import NOT_THE_CARDS, OUT_OF_RANGE, are_cards, is_increasing, within
from hiddencard.ranking import arrangement_at, factorial

MOST_HANDS = 8


def rows_of(hand):
    """The rows that the hand can show, as tuples, in their order."""
    rows = []
    for hidden in hand:
        others = [card for card in hand if card != hidden]
        for number in range(factorial(len(others))):
            rows.append(tuple(arrangement_at(number, others)))
    return rows


def one_behind_another(rows):
    """The cards of all rows in one list."""
    cards = []
    for row in rows:
        cards.extend(row)
    return cards


def possible_rows(hand):
    """Operation 5: the number of rows that the hand can show, and these rows."""
    if not are_cards(hand, 4):
        return [OUT_OF_RANGE]
    if len(hand) == 0 or not is_increasing(hand):
        return [NOT_THE_CARDS]
    rows = rows_of(hand)
    return [0, len(rows)] + one_behind_another(rows)


def may_be_given(hands):
    """Whether these are not too many hands, all different."""
    if len(hands) > MOST_HANDS or not all([is_increasing(hand) for hand in hands]):
        return False
    return len(set([tuple(hand) for hand in hands])) == len(hands)


class GivenHands:
    """The given hands of one request, and the number of cards of each of them."""

    def __init__(self):
        self.size = 2
        self.hands = []

    def set_hands(self, n, cards):
        """Operation 6: replaces the given hands; answers their number."""
        if not (within(n, 2, 4) and are_cards(cards, 32)):
            return [OUT_OF_RANGE]
        if len(cards) % n != 0:
            return [NOT_THE_CARDS]
        hands = [cards[start:start + n] for start in range(0, len(cards), n)]
        if not may_be_given(hands):
            return [NOT_THE_CARDS]
        self.size = n
        self.hands = hands
        return [0, len(hands)]

    def find_assignment(self):
        """Operation 7: the first assignment, or else the first deficient set."""
        choices = [rows_of(hand) for hand in self.hands]
        rows = first_assignment(choices)
        if rows is not None:
            return [0, 1] + one_behind_another(rows)
        members, row_count = first_deficient_set(choices)
        return [0, 0, len(members)] + members + [row_count]
