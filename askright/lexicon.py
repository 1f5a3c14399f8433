"""The kinds and the words of one object."""

ATOM = 0
ASKS_RIGHT = 1
ASKS_LEFT = 2

# Where a kind's form tells how it asks, what it gives and what it asks for.
HOW = 0
GIVEN = 1
ASKED = 2

MOST_KINDS = 256
MOST_WORDS = 256
MOST_WEIGHT = 12
MOST_KINDS_OF_WORD = 4

HAS_IT = -17
NOT_VALID = -22
NO_ROOM = -28
TOO_HEAVY = -34


class Lexicon:
    """Kinds and words, each numbered from 0 in the order in which they came."""

    def __init__(self):
        self.forms = []
        self.weights = []
        # Of each word, the numbers of its kinds.
        self.words = []

    def begin_anew(self):
        self.forms.clear()
        self.weights.clear()
        self.words.clear()
        return 0

    def add_kind(self, how, a, b):
        """The number of the kind, which is made if it isn't there, or a refusal."""
        if how == ATOM:
            return self.add_atom(a, b)
        if how == ASKS_RIGHT or how == ASKS_LEFT:
            return self.add_asking_kind(how, a, b)
        return NOT_VALID

    def add_atom(self, a, b):
        if a != 0 or b != 0:
            return NOT_VALID
        return self.keep_kind((ATOM, 0, 0), 1)

    def add_asking_kind(self, how, a, b):
        if not self.is_kind(a) or not self.is_kind(b):
            return NOT_VALID
        weight = self.weights[a] + self.weights[b]
        if weight > MOST_WEIGHT:
            return TOO_HEAVY
        form = (how, a, b)
        # Numbers stand for kinds one to one, so equal forms are equal kinds.
        if form in self.forms:
            return self.forms.index(form)
        return self.keep_kind(form, weight)

    def is_kind(self, number):
        return number < len(self.forms)

    def keep_kind(self, form, weight):
        number = len(self.forms)
        if number >= MOST_KINDS:
            return NO_ROOM
        self.forms.append(form)
        self.weights.append(weight)
        return number

    def add_word(self):
        """The number of a new word without kinds, or a refusal."""
        number = len(self.words)
        if number >= MOST_WORDS:
            return NO_ROOM
        self.words.append([])
        return number

    def is_word(self, number):
        return number < len(self.words)

    def give(self, word, kind):
        """Gives the word one more kind: 0, or a refusal."""
        if not self.is_word(word) or not self.is_kind(kind):
            return NOT_VALID
        kinds = self.words[word]
        if kind in kinds:
            return HAS_IT
        if len(kinds) >= MOST_KINDS_OF_WORD:
            return NO_ROOM
        kinds.append(kind)
        return 0
