"""Objects that several tests ask of."""

from model import LEFT, RIGHT, Maker, over, under, weight


def tower(levels):
    """A kind that asks for what asks for what asks .., by turns at either side; each level weighs 2."""
    tree = 0
    for i in range(levels):
        tree = under(over(0, tree), 0)
    return tree


def hundred_thousand(with_one_more):
    """Calls that make an object; the row of its words 0 to 10 has 100000 readings as kind 2, or one more.

    Five of the words have a kind that is read as itself in 10 ways; the one more is by second kinds of the words.
    The row is heavier than the document lets be asked: lighter ones have not so many readings.
    """
    ten = tower(3)
    maker = Maker(14)
    for i in range(5):
        asking = [over(over(2 + i, 3 + i), ten)]
        asked = [ten]
        if with_one_more:
            given = 2 if i == 0 else 8 + i
            asking.append(over(over(given, 9 + i), 1))
            asked.append(1)
        maker.word(*asking)
        maker.word(*asked)
    maker.word(*([7, 13] if with_one_more else [7]))
    return maker.calls


def some_tree(source, heaviest, atoms):
    total = source.randrange(1, heaviest + 1)
    return tree_of_weight(source, total, atoms)


def tree_of_weight(source, total, atoms):
    if total == 1:
        return source.randrange(atoms)
    given = source.randrange(1, total)
    turn = source.choice((RIGHT, LEFT))
    return (turn, tree_of_weight(source, given, atoms), tree_of_weight(source, total - given, atoms))


def some_row(source, wanted, room, atoms):
    """A row of trees that is read as the wanted one; their weights come to no more than the room."""
    row = [wanted]
    for i in range(source.randrange(8)):
        at = source.randrange(len(row))
        # What asks for its own kind may be taken in several orders.
        asked = row[at] if source.random() < 0.5 else some_tree(source, 3, atoms)
        total = sum(map(weight, row)) + 2 * weight(asked)
        if len(row) < 12 and total <= room and weight(row[at]) + weight(asked) <= 12:
            if source.random() < 0.5:
                row[at:at + 1] = [over(row[at], asked), asked]
            else:
                row[at:at + 1] = [asked, under(asked, row[at])]
    return row


def some_words(source, row, atoms):
    """For each tree of the row the kinds of a word: it, and some no heavier; multiplied, at most 16 of them."""
    words = [[tree] for tree in row]
    product = 1
    for i in range(source.randrange(6)):
        word = source.choice(words)
        tree = some_tree(source, max(map(weight, word)), atoms)
        grown = product // len(word) * (len(word) + 1)
        if tree not in word and len(word) < 4 and grown <= 16:
            word.insert(source.randrange(len(word) + 1), tree)
            product = grown
    return words


class Example:
    """A row of words that may be asked: its words' kinds, what it is read as, and the calls that make it."""

    def __init__(self, words, wanted, atoms):
        maker = Maker(atoms)
        self.words = words
        self.wanted = wanted
        self.row = [maker.word(*trees) for trees in words]
        self.number = maker.kind(wanted)
        self.calls = maker.calls


def some_example(source, heaviest=16):
    """One that often has readings, and sometimes none."""
    atoms = source.choice((1, 1, 1, 2, 3))
    wanted = some_tree(source, 5, atoms)
    row = some_row(source, wanted, heaviest - weight(wanted), atoms)
    if source.random() < 0.2:
        source.shuffle(row)
    words = some_words(source, row, atoms)
    return Example(words, wanted, atoms)
