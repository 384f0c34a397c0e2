"""Error codes, and the checks that several operations share."""

OUT_OF_RANGE = -1
NOT_THE_CARDS = -3
NO_SUCH_HAND = -4
NOT_POSSIBLE = -5
NOT_DETERMINED = -7

MOST_CARDS = 52


def within(number, least, greatest):
    """Whether the number lies in this range, both ends included."""
    return least <= number <= greatest


def are_cards(numbers, most):
    """Whether these are at most so many numbers, each of which some card can have."""
    return len(numbers) <= most and all([within(number, 0, MOST_CARDS - 1) for number in numbers])


def is_increasing(cards):
    """Whether each card is greater than the one ahead of it."""
    return all([cards[place - 1] < cards[place] for place in range(1, len(cards))])


def are_different(things):
    """Whether none of these cards, hands or rows is there twice."""
    return len(set(things)) == len(things)


def are_of_deck(cards, count, deck):
    """Whether these are exactly so many cards, all of the deck."""
    return len(cards) == count and all([card < deck for card in cards])


def is_hand(cards, count, deck):
    """Whether these are a hand of so many cards of the deck."""
    return are_of_deck(cards, count, deck) and is_increasing(cards)


def is_row(cards, count, deck):
    """Whether these are so many different cards of the deck, in any order."""
    return are_of_deck(cards, count, deck) and are_different(cards)
