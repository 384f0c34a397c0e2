"""The optimal scheme, which works with the greatest possible deck."""

from hiddencard.limits import MOST_CARDS, NOT_DETERMINED, NOT_POSSIBLE, NOT_THE_CARDS, OUT_OF_RANGE
from hiddencard.limits import are_cards, is_hand, is_row, within
from hiddencard.ranking import factorial, numbered_arrangement, sequence_count


def greatest_deck(n):
    """The size of the greatest deck that is playable with n cards."""
    return factorial(n) + n - 1


def shown_and_hidden(n, hand):
    """The row and the hidden card of a hand of a playable deck."""
    position = sum(hand) % n
    hidden = hand[position]
    others = hand[:position] + hand[position + 1:]
    return numbered_arrangement(others, (hidden - position) // n), hidden


def determined_card(n, deck, row):
    """The card that the row determines, or None."""
    for card in range(deck):
        if card not in row and shown_and_hidden(n, sorted(row + [card])) == (row, card):
            return card
    return None


def encode_hand(n, deck, hand):
    """Operation 0: the row of the hand and its hidden card."""
    if not (within(n, 1, 5) and within(deck, 1, MOST_CARDS) and are_cards(hand, 5)):
        return [OUT_OF_RANGE]
    if deck > greatest_deck(n):
        return [NOT_POSSIBLE]
    if not is_hand(hand, n, deck):
        return [NOT_THE_CARDS]
    row, hidden = shown_and_hidden(n, hand)
    return [0, len(row)] + row + [hidden]


def decode_row(n, deck, row):
    """Operation 1: the card that the row determines."""
    if not (within(n, 1, 5) and within(deck, 1, MOST_CARDS) and are_cards(row, 4)):
        return [OUT_OF_RANGE]
    if deck > greatest_deck(n):
        return [NOT_POSSIBLE]
    if not is_row(row, n - 1, deck):
        return [NOT_THE_CARDS]
    card = determined_card(n, deck, row)
    if card is None:
        return [NOT_DETERMINED]
    return [0, card]


def max_deck_size(n):
    """Operation 2: the size of the greatest playable deck."""
    if not within(n, 1, 18):
        return [OUT_OF_RANGE]
    return [0, greatest_deck(n)]


def hand_and_row_count(n, deck):
    """Operation 14: the numbers of hands and of rows of the deck."""
    if not (within(n, 1, 5) and within(deck, 1, MOST_CARDS)):
        return [OUT_OF_RANGE]
    # Among the lists of n cards each hand is there once for each arrangement of its cards.
    return [0, sequence_count(deck, n) // factorial(n), sequence_count(deck, n - 1)]
