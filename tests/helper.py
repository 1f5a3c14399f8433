"""Calls as the interface writes them, and answers taken apart again."""

from askright.kinds import answers

LARGEST = 4294967295

START = [0]
WORD = [2]
ATOM = [1, 0, 0, 0]


def kind(how, a, b):
    return [1, how, a, b]


def give(word, number):
    return [3, word, number]


def many(wanted, row):
    return [4, wanted, len(row)] + list(row)


def reading(wanted, i, row):
    return [5, wanted, i, len(row)] + list(row)


def joined(calls):
    """One list of numbers out of a list of calls."""
    return [number for call in calls for number in call]


def taken_apart(told):
    """The answers of a list that answers() gave back, one list for each call."""
    found = []
    at = 0
    while at < len(told):
        end = at + 1 + told[at]
        if told[at] < 1 or end > len(told):
            raise AssertionError(f"no count of an answer at {at}: {told}")
        found.append(told[at + 1:end])
        at = end
    return found


def ask_lists(calls):
    """What each of the calls answers, a list for each."""
    found = taken_apart(answers(joined(calls)))
    if len(found) != len(calls):
        raise AssertionError(f"not one answer for each call: {found}")
    return found


def ask(calls):
    """What each of the calls answers; each of them answers one number."""
    found = ask_lists(calls)
    if [len(answer) for answer in found] != [1] * len(calls):
        raise AssertionError(f"not one number for each call: {found}")
    return [answer[0] for answer in found]


def last(calls):
    """What the last of the calls answers."""
    return ask(calls)[-1]


def bytes_of(answer):
    """The bytes of an answer of reading that is no refusal, without their count."""
    if answer[0] != len(answer) - 1 or not answer[1:] or not all(0 <= number <= 255 for number in answer[1:]):
        raise AssertionError(f"not a count and so many bytes: {answer}")
    return answer[1:]


def all_readings(made, wanted, row):
    """The bytes of each reading, in order, behind the calls that make the object.

    There are as many as many() says, and none behind the last.
    """
    total = ask_lists(made + [many(wanted, row)])[-1]
    if len(total) != 1 or total[0] < 0:
        raise AssertionError(f"no number of readings: {total}")
    found = []
    room = 400 - len(made)
    for first in range(0, total[0] + 1, room):
        asked = range(first, min(first + room, total[0] + 1))
        found += ask_lists(made + [reading(wanted, i, row) for i in asked])[len(made):]
    if found.pop() != [-2]:
        raise AssertionError("there is a reading behind the last")
    return [bytes_of(answer) for answer in found]
