"""The numbers of the arrangements of different cards."""


def factorial(n):
    """The product of the numbers from 1 to n."""
    product = 1
    for factor in range(2, n + 1):
        product = product * factor
    return product


def arrangement_at(number, cards):
    """The arrangement of different cards that has this number, which must be below their factorial."""
    left = sorted(cards)
    arrangement = []
    block = factorial(len(left))
    for count in range(len(cards), 0, -1):
        # Arrangements that begin alike stand together, in blocks of equal length.
        block = block // count
        arrangement.append(left.pop(number // block))
        number = number % block
    return arrangement


def arrangement_index(arrangement):
    """The number of this arrangement of different cards."""
    left = sorted(arrangement)
    number = 0
    for card in arrangement:
        place = left.index(card)
        number = number * len(left) + place
        left.pop(place)
    return number
