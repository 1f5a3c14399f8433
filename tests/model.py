"""A second program, which keeps kinds as trees and makes every reading; tests compare the two.

A tree is a number (an atom), or ("/", a, b) for a / b, or ("\\", a, b) for b \\ a: what it gives stands first.
"""

RIGHT = "/"
LEFT = "\\"


def over(a, b):
    """a / b"""
    return (RIGHT, a, b)


def under(b, a):
    """b \\ a"""
    return (LEFT, a, b)


def is_atom(tree):
    return isinstance(tree, int)


def weight(tree):
    return 1 if is_atom(tree) else weight(tree[1]) + weight(tree[2])


def readings(row, wanted, supposed=0):
    """Each reading's bytes, in order; row is of pairs: a tree, and its bytes as a head."""
    if is_atom(wanted):
        for at in range(len(row)):
            for parts in parts_of_head(row[at][0], row[:at], row[at + 1:], wanted, supposed):
                yield row[at][1] + (len(parts),) + sum(parts, ())
        return
    thing = (wanted[2], (3, supposed))
    longer = row + [thing] if wanted[0] == RIGHT else [thing] + row
    for inner in readings(longer, wanted[1], supposed + 1):
        yield (1,) + inner


def parts_of_head(head, left, right, wanted, supposed):
    if is_atom(head):
        if head == wanted and not left and not right:
            yield []
        return
    for count in range(1, len(right if head[0] == RIGHT else left) + 1):
        if head[0] == RIGHT:
            part, left_then, right_then = right[:count], left, right[count:]
        else:
            part, left_then, right_then = left[-count:], left[:-count], right
        for first in readings(part, head[2], supposed):
            for others in parts_of_head(head[1], left_then, right_then, wanted, supposed):
                yield [first] + others


def choices(row):
    """Each choice of one kind for each word of the row (lists of trees), as (place, tree) pairs; the last first."""
    if not row:
        yield []
        return
    for picks in choices(row[:-1]):
        for place, tree in enumerate(row[-1]):
            yield picks + [(place, tree)]


def readings_of_words(row, wanted):
    for picks in choices(row):
        yield from readings([(tree, (2, at, place)) for at, (place, tree) in enumerate(picks)], wanted)


def follows(row, wanted, known=None):
    """Whether the row of trees is read as the wanted one by Lambek's rules, each tried on each member of the row."""
    known = {} if known is None else known
    key = (tuple(row), wanted)
    if key not in known:
        known[key] = follows_by_a_rule(list(row), wanted, known)
    return known[key]


def follows_by_a_rule(row, wanted, known):
    if row == [wanted]:
        return True
    if not is_atom(wanted):
        longer = row + [wanted[2]] if wanted[0] == RIGHT else [wanted[2]] + row
        if follows(longer, wanted[1], known):
            return True
    for at, tree in enumerate(row):
        if is_atom(tree):
            continue
        if tree[0] == RIGHT:
            cuts = [(row[at + 1:end], row[:at] + [tree[1]] + row[end:]) for end in range(at + 2, len(row) + 1)]
        else:
            cuts = [(row[begin:at], row[:begin] + [tree[1]] + row[at + 1:]) for begin in range(at)]
        if any(follows(part, tree[2], known) and follows(rest, wanted, known) for part, rest in cuts):
            return True
    return False


def turned_round(tree):
    if is_atom(tree):
        return tree
    return (LEFT if tree[0] == RIGHT else RIGHT, turned_round(tree[1]), turned_round(tree[2]))


def how_often(tree, atom):
    """How often the atom comes in the kind, where what's asked for counts less."""
    if is_atom(tree):
        return 1 if tree == atom else 0
    return how_often(tree[1], atom) - how_often(tree[2], atom)


class Model:
    """Answers each call as answers() does, as a list."""

    def __init__(self):
        self.start()

    def start(self):
        self.trees = []
        self.words = []
        self.atoms = 0
        return [0]

    def kind(self, how, a, b):
        if how == 0 and (a, b) == (0, 0):
            tree = self.atoms
        elif how in (1, 2) and max(a, b) < len(self.trees):
            tree = (RIGHT if how == 1 else LEFT, self.trees[a], self.trees[b])
        else:
            return [-22]
        if weight(tree) > 12:
            return [-34]
        if tree not in self.trees:
            if len(self.trees) == 256:
                return [-28]
            self.trees.append(tree)
            self.atoms += 1 if how == 0 else 0
        return [self.trees.index(tree)]

    def word(self):
        if len(self.words) == 256:
            return [-28]
        self.words.append([])
        return [len(self.words) - 1]

    def give(self, word, kind):
        if word >= len(self.words) or kind >= len(self.trees):
            return [-22]
        if self.trees[kind] in self.words[word]:
            return [-17]
        if len(self.words[word]) == 4:
            return [-28]
        self.words[word].append(self.trees[kind])
        return [0]

    def told(self, kind, row):
        """All readings; None where they are refused."""
        if not 1 <= len(row) <= 12 or kind >= len(self.trees) or max(row) >= len(self.words):
            return None
        return list(readings_of_words([self.words[word] for word in row], self.trees[kind]))

    def many(self, kind, count, *row):
        told = self.told(kind, row)
        return [-22] if told is None else [len(told)]

    def reading(self, kind, i, count, *row):
        told = self.told(kind, row)
        if told is None or i > 99999:
            return [-22]
        if i >= len(told):
            return [-2]
        return [len(told[i])] + list(told[i])

    def is_asked(self, kind, row):
        """Whether the document says that such a row may be asked."""
        if len(row) > 12:
            return True
        heaviest = weight(self.trees[kind]) if kind < len(self.trees) else 1
        product = 1
        for word in row:
            trees = self.words[word] if word < len(self.words) else []
            heaviest += max([weight(tree) for tree in trees], default=0)
            product *= len(trees)
        return heaviest <= 16 and product <= 16

    def answer(self, call):
        calls = (self.start, self.kind, self.word, self.give, self.many, self.reading)
        return calls[call[0]](*call[1:])


class Maker:
    """Builds the calls that make an object whose words have the trees told of them."""

    def __init__(self, atoms=1):
        self.calls = [[1, 0, 0, 0] for atom in range(atoms)]
        self.numbers = {atom: atom for atom in range(atoms)}
        self.word_total = 0

    def kind(self, tree):
        """The number of the kind."""
        if tree not in self.numbers:
            given, asked = self.kind(tree[1]), self.kind(tree[2])
            self.calls.append([1, 1 if tree[0] == RIGHT else 2, given, asked])
            self.numbers[tree] = len(self.numbers)
        return self.numbers[tree]

    def word(self, *trees):
        """The number of a new word with these kinds."""
        self.calls.append([2])
        self.word_total += 1
        for tree in trees:
            number = self.kind(tree)
            self.calls.append([3, self.word_total - 1, number])
        return self.word_total - 1
