"""What holds over the whole program, a to f, over many small objects."""

import itertools
import random
import unittest

from checker import choices_of_words
from examples import Example, some_example, some_row, some_tree, tree_of_weight
from helper import all_readings, ask, many
from model import LEFT, RIGHT, Maker, follows, how_often, is_atom, turned_round, weight

ROOM = 400


def trees_of_weight(total, atoms):
    if total == 1:
        return list(range(atoms))
    found = []
    for given in range(1, total):
        for a in trees_of_weight(given, atoms):
            for b in trees_of_weight(total - given, atoms):
                found += [(RIGHT, a, b), (LEFT, a, b)]
    return found


def ask_all(trees, atoms, questions):
    """How many readings there are for each question: a row of trees, and a tree that it is read as."""
    maker = Maker(atoms)
    words = {tree: maker.word(tree) for tree in trees}
    calls = [many(maker.kind(wanted), [words[tree] for tree in row]) for row, wanted in questions]
    room = ROOM - len(maker.calls)
    found = []
    for first in range(0, len(calls), room):
        found += ask(maker.calls + calls[first:first + room])[len(maker.calls):]
    return found


def how_many(row, wanted, atoms=3):
    example = Example([[tree] for tree in row], wanted, atoms)
    return ask(example.calls + [many(example.number, example.row)])[-1]


def examples(seed, count):
    source = random.Random(seed)
    return [some_example(source) for i in range(count)]


def told(example):
    return all_readings(example.calls, example.number, example.row)


class JustWhatCanBeShown(unittest.TestCase):
    """a"""

    def compare(self, trees, atoms, longest, wanted_trees):
        questions = [(row, wanted) for count in range(1, longest + 1) for row in itertools.product(trees, repeat=count)
                     for wanted in wanted_trees]
        known = {}
        shown = 0
        for (row, wanted), found in zip(questions, ask_all(trees, atoms, questions)):
            shown += 1 if found > 0 else 0
            self.assertEqual(found > 0, follows(row, wanted, known), (row, wanted))
        self.assertGreater(shown, 0)

    def test_all_rows_of_three_light_kinds(self):
        trees = [tree for total in (1, 2, 3) for tree in trees_of_weight(total, 1)]
        self.assertEqual(len(trees), 11)
        self.compare(trees, 1, 3, trees)

    def test_two_atoms(self):
        trees = [tree for total in (1, 2) for tree in trees_of_weight(total, 2)]
        self.compare(trees, 2, 3, trees)

    def test_heavier_kinds_one_by_one(self):
        trees = trees_of_weight(4, 1)
        lighter = [tree for total in (1, 2, 3) for tree in trees_of_weight(total, 1)]
        self.compare(trees, 1, 1, trees + lighter)
        self.compare(lighter, 1, 1, trees)

    def test_some_heavy_rows(self):
        source = random.Random(11)
        for i in range(400):
            wanted = some_tree(source, 6, 1)
            row = some_row(source, wanted, 16 - weight(wanted), 1)
            if source.random() < 0.7:
                source.shuffle(row)
            self.assertEqual(how_many(row, wanted) > 0, follows(row, wanted), (row, wanted))


class APartMayStandForItsKind(unittest.TestCase):
    """b"""

    def test_some_rows_within_others(self):
        source = random.Random(12)
        done = 0
        while done < 300:
            wanted = some_tree(source, 4, 2)
            outer = some_row(source, wanted, 9, 2)
            at = source.randrange(len(outer))
            inner = some_row(source, outer[at], 9, 2)
            if source.random() < 0.5:
                source.shuffle(inner)
            whole = outer[:at] + inner + outer[at + 1:]
            if len(whole) > 12 or sum(map(weight, whole)) + weight(wanted) > 16:
                continue
            if how_many(outer, wanted) > 0 and how_many(inner, outer[at]) > 0:
                done += 1
                self.assertGreater(how_many(whole, wanted), 0, (outer, inner, wanted))


class EachOnce(unittest.TestCase):
    """c, and the order"""

    def test_no_two_are_the_same(self):
        for example in examples(13, 1500):
            found = told(example)
            self.assertEqual(len({tuple(one) for one in found}), len(found))

    def test_each_is_a_reading_and_they_are_in_order(self):
        several = 0
        for example in examples(14, 1500):
            chosen = [choices_of_words(one, example.words, example.wanted) for one in told(example)]
            several += 1 if len(chosen) > 1 else 0
            for before, behind in zip(chosen, chosen[1:]):
                self.assertLess(before, behind)
        self.assertGreater(several, 100)


class FromTheOtherSide(unittest.TestCase):
    """d"""

    def test_as_many_with_all_turned_round(self):
        source = random.Random(15)
        for i in range(1500):
            example = some_example(source)
            words = [[turned_round(tree) for tree in trees] for trees in reversed(example.words)]
            turned = Example(words, turned_round(example.wanted), 3)
            one = ask(example.calls + [many(example.number, example.row)])[-1]
            other = ask(turned.calls + [many(turned.number, turned.row)])[-1]
            self.assertEqual(one, other)


class NothingIsLost(unittest.TestCase):
    """e"""

    def test_each_atom_as_often_in_the_row_as_in_the_kind(self):
        for example in examples(16, 1500):
            for one in told(example):
                picks = choices_of_words(one, example.words, example.wanted)[:len(example.words)]
                row = [trees[pick] for trees, pick in zip(example.words, picks)]
                for atom in range(3):
                    in_row = sum(how_often(tree, atom) for tree in row)
                    self.assertEqual(in_row, how_often(example.wanted, atom))

    def test_no_readings_where_one_is_lost(self):
        source = random.Random(17)
        for i in range(500):
            row = [some_tree(source, 4, 2) for j in range(source.randrange(1, 4))]
            wanted = some_tree(source, 4, 2)
            if any(sum(how_often(tree, atom) for tree in row) != how_often(wanted, atom) for atom in (0, 1)):
                self.assertEqual(how_many(row, wanted), 0)


def some_sums(source):
    """Sorts of rows of letters, each sort a number, and which sort comes of two put together.

    A letter turns some places into others; a sort is all rows that do so alike.
    """
    places = range(source.choice((2, 3)))
    letters = [tuple(source.choice(places) for place in places) for i in range(2)]
    sorts = list(letters)
    for sort in sorts:
        for letter in letters:
            longer = tuple(letter[place] for place in sort)
            if longer not in sorts:
                sorts.append(longer)
    sorts = list(dict.fromkeys(sorts))
    put = {(one, other): tuple(other[place] for place in one) for one in sorts for other in sorts}
    return sorts, put


def rows_of(tree, sorts, put, atoms):
    """Which sorts of rows of letters are of a kind."""
    if is_atom(tree):
        return atoms[tree]
    of_a, of_b = rows_of(tree[1], sorts, put, atoms), rows_of(tree[2], sorts, put, atoms)
    if tree[0] == RIGHT:
        return {sort for sort in sorts if all(put[sort, other] in of_a for other in of_b)}
    return {sort for sort in sorts if all(put[other, sort] in of_a for other in of_b)}


class TrueOfRowsOfLetters(unittest.TestCase):
    """f"""

    def test_what_is_read_as_a_kind_is_of_it(self):
        source = random.Random(18)
        told_something = 0
        for i in range(400):
            wanted = tree_of_weight(source, source.randrange(1, 5), 2)
            row = some_row(source, wanted, 16 - weight(wanted), 2)
            if source.random() < 0.5:
                source.shuffle(row)
            if how_many(row, wanted) == 0:
                continue
            sorts, put = some_sums(source)
            atoms = [{sort for sort in sorts if source.random() < 0.5} for atom in range(2)]
            together = rows_of(row[0], sorts, put, atoms)
            for tree in row[1:]:
                more = rows_of(tree, sorts, put, atoms)
                together = {put[one, other] for one in together for other in more}
            of_wanted = rows_of(wanted, sorts, put, atoms)
            self.assertLessEqual(together, of_wanted)
            told_something += 1 if together and len(of_wanted) < len(sorts) else 0
        self.assertGreater(told_something, 50)


if __name__ == "__main__":
    unittest.main()
