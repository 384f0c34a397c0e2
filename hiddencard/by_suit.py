"""The scheme by suits (Fitch Cheney)."""

from hiddencard.limits import MOST_CARDS, NOT_DETERMINED, NOT_POSSIBLE, NOT_THE_CARDS, OUT_OF_RANGE
from hiddencard.limits import are_cards, is_hand, is_row, within
from hiddencard.ranking import factorial, number_of_arrangement, numbered_arrangement


def greatest_distance(suits):
    """The greatest distance that a row can tell: the cards behind its first one have so many arrangements."""
    return factorial(suits - 1)


def is_playable(suits, ranks):
    """Whether the scheme by suits works with this deck, and the deck isn't too large."""
    return ranks <= 2 * greatest_distance(suits) + 1 and suits * ranks <= MOST_CARDS


def distance(first, second, ranks):
    """The steps upwards from a card to another one of its suit."""
    return (second % ranks - first % ranks) % ranks


def first_pair(suits, ranks, hand):
    """The first pair of the hand as (first card, second card), or None."""
    for first in hand:
        for second in hand:
            same_suit = first // ranks == second // ranks
            if same_suit and within(distance(first, second, ranks), 1, greatest_distance(suits)):
                return first, second
    return None


def shown_and_hidden_by_suit(suits, ranks, hand):
    """The row and the hidden card of a hand, or None if it has no pair."""
    pair = first_pair(suits, ranks, hand)
    if pair is None:
        return None
    first, hidden = pair
    others = [card for card in hand if card not in pair]
    return [first] + numbered_arrangement(others, distance(first, hidden, ranks) - 1), hidden


def determined_card_by_suit(suits, ranks, row):
    """The card that the row determines, or None."""
    first = row[0]
    steps = number_of_arrangement(row[1:]) + 1
    if steps >= ranks:
        return None
    card = first // ranks * ranks + (first % ranks + steps) % ranks
    # Another pair of the same hand may come earlier: then this row is never shown.
    if card in row or shown_and_hidden_by_suit(suits, ranks, sorted(row + [card])) != (row, card):
        return None
    return card


def encode_by_suit(suits, ranks, hand):
    """Operation 3: the row of the hand and its hidden card."""
    if not (within(suits, 1, 5) and within(ranks, 1, MOST_CARDS) and are_cards(hand, 6)):
        return [OUT_OF_RANGE]
    if not is_playable(suits, ranks):
        return [NOT_POSSIBLE]
    if not is_hand(hand, suits + 1, suits * ranks):
        return [NOT_THE_CARDS]
    parts = shown_and_hidden_by_suit(suits, ranks, hand)
    if parts is None:
        return [NOT_DETERMINED]
    row, hidden = parts
    return [0, len(row)] + row + [hidden]


def decode_by_suit(suits, ranks, row):
    """Operation 4: the card that the row determines."""
    if not (within(suits, 1, 5) and within(ranks, 1, MOST_CARDS) and are_cards(row, 5)):
        return [OUT_OF_RANGE]
    if not is_playable(suits, ranks):
        return [NOT_POSSIBLE]
    if not is_row(row, suits, suits * ranks):
        return [NOT_THE_CARDS]
    card = determined_card_by_suit(suits, ranks, row)
    if card is None:
        return [NOT_DETERMINED]
    return [0, card]
