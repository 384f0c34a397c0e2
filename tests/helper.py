"""Asks the program: calls are written as tuples, answers come as one list for each call."""

from hiddencard.trick import answers

BIG = 10 ** 18


def flat(calls):
    """The calls as the one list of whole numbers that is handed in."""
    numbers = []
    for call in calls:
        for part in call:
            if isinstance(part, list):
                numbers.append(len(part))
                numbers.extend(part)
            else:
                numbers.append(part)
    return numbers


def ask(*calls):
    """The answer to each call of one request."""
    given_back = answers(flat(calls))
    split = []
    place = 0
    while place < len(given_back):
        end = place + 1 + given_back[place]
        split.append(given_back[place + 1:end])
        place = end
    assert place == len(given_back) and len(split) == len(calls)
    return split


def ask_one(*call):
    """The answer to the only call of a request."""
    return ask(call)[0]


def ask_many(calls):
    """The answers to any number of calls that don't depend on one another, 100 a request."""
    split = []
    for start in range(0, len(calls), 100):
        split.extend(ask(*calls[start:start + 100]))
    return split
