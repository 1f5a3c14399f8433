"""What is asked of a row of words: how many readings it has, and each of them."""

from askright.lexicon import NOT_VALID
from askright.readings import Readings

MOST_WORDS_OF_ROW = 12
MOST_READINGS = 100000

NOT_THERE = -2
TOO_MANY = -75

WORD_HEAD = 2


def many(lexicon, wanted, row):
    """How many readings the row has as the wanted kind, or a refusal."""
    if not is_askable(lexicon, wanted, row):
        return NOT_VALID
    readings = Readings(lexicon.forms)
    total = 0
    for number in range(how_many_choices(lexicon, row)):
        picks = choice(lexicon, row, number)
        total = total + readings.how_many(chosen_kinds(lexicon, row, picks), wanted)
        if total > MOST_READINGS:
            return TOO_MANY
    return total


def reading(lexicon, wanted, i, row):
    """How many bytes the reading has that has i before it, and these; or a refusal alone."""
    if not is_askable(lexicon, wanted, row) or i >= MOST_READINGS:
        return [NOT_VALID]
    readings = Readings(lexicon.forms)
    before = i
    for number in range(how_many_choices(lexicon, row)):
        picks = choice(lexicon, row, number)
        kinds = chosen_kinds(lexicon, row, picks)
        total = readings.how_many(kinds, wanted)
        if before < total:
            told = readings.reading(kinds, head_names(picks), wanted, before, 0)
            return [len(told)] + told
        before = before - total
    return [NOT_THERE]


def is_askable(lexicon, wanted, row):
    if len(row) < 1 or len(row) > MOST_WORDS_OF_ROW:
        return False
    return lexicon.is_kind(wanted) and all([lexicon.is_word(word) for word in row])


def how_many_choices(lexicon, row):
    total = 1
    for word in row:
        total = total * len(lexicon.words[word])
    return total


def choice(lexicon, row, number):
    """Which of its kinds each word has in the choice that has so many before it; the last word's changes first."""
    picks = []
    for word in reversed(row):
        kinds = len(lexicon.words[word])
        picks.append(number % kinds)
        number = number // kinds
    return list(reversed(picks))


def chosen_kinds(lexicon, row, picks):
    return tuple([lexicon.words[word][pick] for word, pick in zip(row, picks)])


def head_names(picks):
    """Of each word of the row, its bytes as a head."""
    return tuple([(WORD_HEAD, place, pick) for place, pick in enumerate(picks)])
