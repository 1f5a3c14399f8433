"""The readings of a row of kinds as a kind: how many there are, and each of them by its place in their order."""

from askright.lexicon import ASKED, ASKS_RIGHT, ATOM, GIVEN, HOW

SUPPOSING = 1
SUPPOSED_HEAD = 3


class Head:
    """A head and its sides: the row up to left stands left of it, the row from right on stands right of it."""

    def __init__(self, kind, left, right):
        self.kind = kind
        self.left = left
        self.right = right


class Step:
    """A part of the row that a head takes, from begin up to end, and the head as it is then."""

    def __init__(self, begin, end, head):
        self.begin = begin
        self.end = end
        self.head = head


def find_place(totals, number):
    """Which of the totals a number falls to, and how many of that one's come before it."""
    at = 0
    while number >= totals[at]:
        number = number - totals[at]
        at = at + 1
    return (at, number)


class Readings:
    """Rows are tuples of kinds; each is counted once, so that no reading has to be made to find another."""

    def __init__(self, forms):
        self.forms = forms
        self.totals = {}

    def how_many(self, row, wanted):
        """How many readings the row has as the wanted kind."""
        key = (row, wanted)
        if key not in self.totals:
            self.totals[key] = self.add_up(row, wanted)
        return self.totals[key]

    def add_up(self, row, wanted):
        form = self.forms[wanted]
        if form[HOW] == ATOM:
            return sum([self.ways(row, wanted, head) for head in self.heads(row)])
        if form[HOW] == ASKS_RIGHT:
            return self.how_many(row + (form[ASKED],), form[GIVEN])
        return self.how_many((form[ASKED],) + row, form[GIVEN])

    def heads(self, row):
        return [Head(kind, at, at + 1) for at, kind in enumerate(row)]

    def ways(self, row, wanted, head):
        """How many readings of the row as the wanted atom go on from the head."""
        if self.forms[head.kind][HOW] == ATOM:
            fits = head.kind == wanted and head.left == 0 and head.right == len(row)
            return 1 if fits else 0
        return sum([self.ways_of_step(row, wanted, head, step) for step in self.steps(row, head)])

    def steps(self, row, head):
        """What the head may take next, the fewest first."""
        form = self.forms[head.kind]
        given = form[GIVEN]
        if form[HOW] == ASKS_RIGHT:
            return [Step(head.right, end, Head(given, head.left, end)) for end in range(head.right + 1, len(row) + 1)]
        return [Step(begin, head.left, Head(given, begin, head.right)) for begin in range(head.left - 1, -1, -1)]

    def ways_of_step(self, row, wanted, head, step):
        asked = self.forms[head.kind][ASKED]
        taken = self.how_many(row[step.begin:step.end], asked)
        # What can't be read needs no look at what would be asked for next.
        if taken == 0:
            return 0
        return taken * self.ways(row, wanted, step.head)

    def reading(self, row, names, wanted, number, supposed):
        """The bytes of the reading that has so many before it.

        names are the bytes of each member of the row as a head; supposed is how many things were supposed and are
        not yet read to the end.
        """
        told = []
        form = self.forms[wanted]
        while form[HOW] != ATOM:
            told.append(SUPPOSING)
            name = (SUPPOSED_HEAD, supposed)
            if form[HOW] == ASKS_RIGHT:
                row = row + (form[ASKED],)
                names = names + (name,)
            else:
                row = (form[ASKED],) + row
                names = (name,) + names
            supposed = supposed + 1
            wanted = form[GIVEN]
            form = self.forms[wanted]
        return told + self.reading_as_atom(row, names, wanted, number, supposed)

    def reading_as_atom(self, row, names, wanted, number, supposed):
        heads = self.heads(row)
        place = find_place([self.ways(row, wanted, head) for head in heads], number)
        parts = self.parts(row, names, wanted, heads[place[0]], place[1], supposed)
        told = list(names[place[0]]) + [len(parts)]
        for part in parts:
            told.extend(part)
        return told

    def parts(self, row, names, wanted, head, number, supposed):
        """The readings of what the head asks for, one by one."""
        found = []
        while self.forms[head.kind][HOW] != ATOM:
            asked = self.forms[head.kind][ASKED]
            steps = self.steps(row, head)
            place = find_place([self.ways_of_step(row, wanted, head, step) for step in steps], number)
            step = steps[place[0]]
            # How a part is read is chosen ahead of what is asked for next, so the latter changes first.
            behind = self.ways(row, wanted, step.head)
            part = row[step.begin:step.end]
            part_names = names[step.begin:step.end]
            found.append(self.reading(part, part_names, asked, place[1] // behind, supposed))
            number = place[1] % behind
            head = step.head
        return found
