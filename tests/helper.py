"""What several tests share: asking the program, and the document's words about hands done the slow way.

Calls are written as tuples, answers come as one list for each call.
"""

from itertools import combinations, permutations, product

from hiddencard.trick import answers

BIG = 10 ** 18

ALL_PAIRS = [0, 1, 0, 2, 0, 3, 1, 2, 1, 3, 2, 3]


def flat(calls):
    """The calls as the one list of whole numbers that is handed in."""
    numbers = []
    for call in calls:
        for part in call:
            if isinstance(part, list):
                numbers.append(len(part))
                numbers.extend(part)
            else:
                numbers.append(part)
    return numbers


def ask(*calls):
    """The answer to each call of one request."""
    given_back = answers(flat(calls))
    split = []
    place = 0
    while place < len(given_back):
        end = place + 1 + given_back[place]
        split.append(given_back[place + 1:end])
        place = end
    assert place == len(given_back) and len(split) == len(calls)
    return split


def ask_one(*call):
    """The answer to the only call of a request."""
    return ask(call)[0]


def ask_many(calls):
    """The answers to any number of calls that don't depend on one another, 100 a request."""
    split = []
    for start in range(0, len(calls), 100):
        split.extend(ask(*calls[start:start + 100]))
    return split


def rows_of(hand):
    """The rows of a hand by the document's words."""
    rows = []
    for hidden in hand:
        rows.extend(permutations([card for card in hand if card != hidden]))
    return rows


def one_behind_another(rows):
    """The cards of all rows or hands in one list."""
    return [card for row in rows for card in row]


def expected_assignment(hands):
    """The answer to find_assignment, found by trying everything."""
    choices = [rows_of(hand) for hand in hands]
    for rows in product(*choices):
        if len(set(rows)) == len(rows):
            return [0, 1] + one_behind_another(rows)
    sets = [c for size in range(1, len(hands) + 1) for c in combinations(range(len(hands)), size)]
    for members in sorted(sets, key=lambda chosen: sum(2 ** h for h in chosen)):
        shown = {row for h in members for row in choices[h]}
        if len(shown) < len(members):
            return [0, 0, len(members)] + list(members) + [len(shown)]
    raise AssertionError("neither an assignment nor a deficient set")
