"""The numbers of arrangements and of sequences, in lexicographic order."""

from hiddencard.limits import MOST_CARDS, NOT_POSSIBLE, NOT_THE_CARDS, OUT_OF_RANGE
from hiddencard.limits import are_cards, are_different, is_row, within

MOST_ARRANGED = 12
MOST_IN_SEQUENCE = 10


def factorial(n):
    """The product of the numbers from 1 to n."""
    return sequence_count(n, n)


def sequence_count(n, length):
    """The number of lists of so many different ones out of n, in any order."""
    # If there are too few to choose from, 0 is one of the factors.
    product = 1
    for factor in range(n, n - length, -1):
        product = product * factor
    return product


def numbered_sequence(cards, length, number):
    """The list of so many of the different cards that has this number, which must be below their count."""
    left = sorted(cards)
    sequence = []
    block = sequence_count(len(left), length)
    while len(sequence) < length:
        # Sequences that begin alike stand together, in blocks of equal length.
        block = block // len(left)
        sequence.append(left.pop(number // block))
        number = number % block
    return sequence


def number_of_sequence(cards, sequence):
    """The number of this list of some of the different cards."""
    left = sorted(cards)
    number = 0
    for card in sequence:
        place = left.index(card)
        number = number * len(left) + place
        left.pop(place)
    return number


def numbered_arrangement(cards, number):
    """The arrangement of different cards that has this number, which must be below their factorial."""
    return numbered_sequence(cards, len(cards), number)


def number_of_arrangement(arrangement):
    """The number of this arrangement of different cards."""
    return number_of_sequence(arrangement, arrangement)


def arrangement_at(k, cards):
    """Operation 10: the arrangement of the cards with this number."""
    if k < 0 or not are_cards(cards, MOST_ARRANGED):
        return [OUT_OF_RANGE]
    if not are_different(cards):
        return [NOT_THE_CARDS]
    if k >= factorial(len(cards)):
        return [NOT_POSSIBLE]
    return [0, len(cards)] + numbered_arrangement(cards, k)


def arrangement_index(cards):
    """Operation 11: the number of this arrangement."""
    if not are_cards(cards, MOST_ARRANGED):
        return [OUT_OF_RANGE]
    if not are_different(cards):
        return [NOT_THE_CARDS]
    return [0, number_of_arrangement(cards)]


def sequence_at(n, k, m):
    """Operation 12: the sequence of k out of n with the number m."""
    if not (within(n, 0, MOST_CARDS) and within(k, 0, MOST_IN_SEQUENCE)) or m < 0:
        return [OUT_OF_RANGE]
    if m >= sequence_count(n, k):
        return [NOT_POSSIBLE]
    return [0, k] + numbered_sequence(list(range(n)), k, m)


def sequence_index(n, cards):
    """Operation 13: the number of this sequence out of n."""
    if not (within(n, 0, MOST_CARDS) and are_cards(cards, MOST_IN_SEQUENCE)):
        return [OUT_OF_RANGE]
    if not is_row(cards, len(cards), n):
        return [NOT_THE_CARDS]
    return [0, number_of_sequence(list(range(n)), cards)]
