"""The calls of one request and their answers."""

from hiddencard.by_suit import decode_by_suit, encode_by_suit
from hiddencard.given import GivenHands, possible_rows
from hiddencard.optimal import decode_row, encode_hand, hand_and_row_count, max_deck_size
from hiddencard.ranking import arrangement_at, arrangement_index, sequence_at, sequence_index

# For each operation, by its number: how many whole numbers it has, and whether a list comes behind them.
NUMBER_COUNTS = (2, 2, 1, 2, 2, 0, 1, 0, 0, 1, 1, 0, 3, 1, 2, 0)
HAS_LIST = (True, True, False, True, True, True, True, False,
            True, False, True, True, False, True, False, False)


def read_call(calls, place):
    """The call that begins at this place: its operation, whole numbers and list; and where the next one begins."""
    operation = calls[place]
    end = place + 1 + NUMBER_COUNTS[operation]
    numbers = calls[place + 1:end]
    if not HAS_LIST[operation]:
        return operation, numbers, [], end
    start = end + 1
    end = start + calls[end]
    return operation, numbers, calls[start:end], end


def answer_call(given_hands, operation, numbers, cards):
    """The answer to one call: 0 and the fields behind it, or an error code alone."""
    if operation == 0:
        return encode_hand(numbers[0], numbers[1], cards)
    if operation == 1:
        return decode_row(numbers[0], numbers[1], cards)
    if operation == 2:
        return max_deck_size(numbers[0])
    if operation == 3:
        return encode_by_suit(numbers[0], numbers[1], cards)
    if operation == 4:
        return decode_by_suit(numbers[0], numbers[1], cards)
    if operation == 5:
        return possible_rows(cards)
    if operation == 6:
        return given_hands.set_hands(numbers[0], cards)
    if operation == 7:
        return given_hands.find_assignment()
    if operation == 8:
        return given_hands.check_assignment(cards)
    if operation == 9:
        return given_hands.remove_hand(numbers[0])
    if operation == 10:
        return arrangement_at(numbers[0], cards)
    if operation == 11:
        return arrangement_index(cards)
    if operation == 12:
        return sequence_at(numbers[0], numbers[1], numbers[2])
    if operation == 13:
        return sequence_index(numbers[0], cards)
    if operation == 14:
        return hand_and_row_count(numbers[0], numbers[1])
    return given_hands.summary()


def answers(calls):
    """The answers to a list of calls, each with how many numbers it has ahead of it."""
    given_hands = GivenHands()
    result = []
    place = 0
    while place < len(calls):
        operation, numbers, cards, place = read_call(calls, place)
        answer = answer_call(given_hands, operation, numbers, cards)
        result.append(len(answer))
        result.extend(answer)
    return result
