"""The interface: what is answered to the calls on one object."""

from askright.lexicon import Lexicon
from askright.reader import KIND, START, WORD, read_calls


class UnansweredCall(ValueError):
    """A call that the program has no answer to."""


def answers(calls):
    """For each call, in order, how many numbers are answered, and then these."""
    lexicon = Lexicon()
    told = []
    for call, numbers, row in read_calls(calls):
        answer = answer_call(lexicon, call, numbers)
        told.append(len(answer))
        told.extend(answer)
    return told


def answer_call(lexicon, call, numbers):
    if call == START:
        return [lexicon.begin_anew()]
    if call == KIND:
        return [lexicon.add_kind(numbers[0], numbers[1], numbers[2])]
    if call == WORD:
        return [lexicon.add_word()]
    raise UnansweredCall(f"no answer to call {call}")
