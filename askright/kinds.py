"""The interface: what is answered to the calls on one object."""

from askright.lexicon import Lexicon
from askright.reader import GIVE, KIND, MANY, START, WORD, read_calls
from askright.rows import many, reading


def answers(calls):
    """For each call, in order, how many numbers are answered, and then these."""
    lexicon = Lexicon()
    told = []
    for call, numbers, row in read_calls(calls):
        answer = answer_call(lexicon, call, numbers, row)
        told.append(len(answer))
        told.extend(answer)
    return told


def answer_call(lexicon, call, numbers, row):
    if call == START:
        return [lexicon.begin_anew()]
    if call == KIND:
        return [lexicon.add_kind(numbers[0], numbers[1], numbers[2])]
    if call == WORD:
        return [lexicon.add_word()]
    if call == GIVE:
        return [lexicon.give(numbers[0], numbers[1])]
    if call == MANY:
        return [many(lexicon, numbers[0], row)]
    return reading(lexicon, numbers[0], numbers[1], row)
