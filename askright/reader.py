"""Tells the calls of one list of whole numbers from one another."""

START = 0
KIND = 1
WORD = 2
GIVE = 3
MANY = 4
READING = 5

# By a call's number: how many whole numbers follow it, ahead of its row.
NUMBERS_BEHIND = (0, 3, 0, 2, 1, 2)


def read_calls(calls):
    """The calls in order, each as its number, its whole numbers and its row."""
    found = []
    at = 0
    while at < len(calls):
        call = calls[at]
        row_at = at + 1 + NUMBERS_BEHIND[call]
        numbers = calls[at + 1:row_at]
        row = read_row(calls, call, row_at)
        found.append((call, numbers, row))
        at = row_at
        if row is not None:
            at = row_at + 1 + len(row)
    return found


def read_row(calls, call, row_at):
    """The row whose length stands at row_at; None for a call without one."""
    if call != MANY and call != READING:
        return None
    first = row_at + 1
    return calls[first:first + calls[row_at]]
