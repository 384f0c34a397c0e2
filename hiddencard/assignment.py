"""Different rows for hands, where each hand has a list of the rows that it can show."""

from hiddencard.limits import are_different


def take_row(hand, choices, owners, tried):
    """Whether the hand gets a row, while the hands that own rows may change theirs; notes the new owners."""
    for row in choices[hand]:
        if row not in tried:
            tried[row] = True
            # Each step down goes to another hand, so the depth is at most the number of hands.
            if row not in owners or take_row(owners[row], choices, owners, tried):
                owners[row] = hand
                return True
    return False


def can_assign(choices):
    """Whether all hands can have different rows."""
    owners = {}
    for hand in range(len(choices)):
        if not take_row(hand, choices, owners, {}):
            return False
    return True


def without_rows(choices, taken):
    """The choices that are left if these rows are taken."""
    left = []
    for rows in choices:
        left.append([row for row in rows if row not in taken])
    return left


def first_row(rows, following, taken):
    """The first row that isn't taken and leaves different rows for the following hands, or None."""
    for row in rows:
        if row not in taken and can_assign(without_rows(following, taken + [row])):
            return row
    return None


def first_assignment(choices):
    """One row for each hand, as the first assignment has them, or None if none is valid."""
    assigned = []
    for hand in range(len(choices)):
        row = first_row(choices[hand], choices[hand + 1:], assigned)
        if row is None:
            return None
        assigned.append(row)
    return assigned


def is_assignment(choices, rows):
    """Whether each hand can show its row, and all rows are different."""
    shown = [row in choices[hand] for hand, row in enumerate(rows)]
    return all(shown) and are_different(rows)


def count_together(choices):
    """The number of different rows that the hands can show together."""
    together = {}
    for rows in choices:
        for row in rows:
            together[row] = True
    return len(together)


def first_deficient_set(choices):
    """The members of the first deficient set and how many rows they can show, or None if there is no such set."""
    # A mask is the sum of 2 ^ h over the members h, so the masks come in the order asked for.
    for mask in range(1, 1 << len(choices)):
        members = [hand for hand in range(len(choices)) if (mask >> hand) & 1 == 1]
        row_count = count_together([choices[hand] for hand in members])
        if row_count < len(members):
            return members, row_count
    return None
