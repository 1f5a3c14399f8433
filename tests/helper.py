"""Calls as the interface writes them, and answers taken apart again."""

from askright.kinds import answers

LARGEST = 4294967295

START = [0]
WORD = [2]
ATOM = [1, 0, 0, 0]


def kind(how, a, b):
    return [1, how, a, b]


def joined(calls):
    """One list of numbers out of a list of calls."""
    return [number for call in calls for number in call]


def taken_apart(told):
    """The answers of a list that answers() gave back, one list for each call."""
    found = []
    at = 0
    while at < len(told):
        end = at + 1 + told[at]
        if told[at] < 1 or end > len(told):
            raise AssertionError(f"no count of an answer at {at}: {told}")
        found.append(told[at + 1:end])
        at = end
    return found


def ask(calls):
    """What each of the calls answers; each of them answers one number."""
    found = taken_apart(answers(joined(calls)))
    if [len(answer) for answer in found] != [1] * len(calls):
        raise AssertionError(f"not one number for each call: {found}")
    return [answer[0] for answer in found]


def last(calls):
    """What the last of the calls answers."""
    return ask(calls)[-1]
