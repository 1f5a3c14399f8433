"""Takes a reading's bytes apart again, and tells the choices that lead to it.

It goes the other way round than the program: from the bytes to the row and the kind.
"""

from model import RIGHT, is_atom


class NoReading(Exception):
    pass


def must(truth, words):
    if not truth:
        raise NoReading(words)


def parse(told, at=0):
    """The reading that begins at a place, and where it ends: ("1", inner) or (head, parts)."""
    must(at < len(told), "the bytes end too early")
    if told[at] == 1:
        inner, end = parse(told, at + 1)
        return ("1", inner), end
    must(told[at] in (2, 3), f"no head begins with {told[at]}")
    count_at = at + (3 if told[at] == 2 else 2)
    must(count_at < len(told), "the bytes end too early")
    head = tuple(told[at:count_at])
    parts = []
    end = count_at + 1
    for i in range(told[count_at]):
        part, end = parse(told, end)
        parts.append(part)
    return (head, parts), end


def members(node, supposed):
    """How many members of the row a reading is of: all its heads but those that it supposes itself."""
    if node[0] == "1":
        return members(node[1], supposed)
    head, parts = node
    own = 0 if head[0] == 3 and head[1] >= supposed else 1
    return own + sum(members(part, supposed) for part in parts)


def choices_of(node, row, wanted, supposed):
    """The choices in their order, as one list of numbers; row is of pairs: a tree, and its bytes as a head."""
    if not is_atom(wanted):
        must(node[0] == "1", "nothing is supposed where a kind that asks is wanted")
        thing = (wanted[2], (3, supposed))
        longer = row + [thing] if wanted[0] == RIGHT else [thing] + row
        return choices_of(node[1], longer, wanted[1], supposed + 1)
    must(node[0] != "1", "something is supposed where an atom is wanted")
    head, parts = node
    names = [name for tree, name in row]
    must(names.count(head) == 1, f"{head} is not in the row")
    at = names.index(head)
    tree, left, right = row[at][0], row[:at], row[at + 1:]
    found = [at]
    for part in parts:
        must(not is_atom(tree), "an atom asks for nothing")
        count = members(part, supposed)
        side = right if tree[0] == RIGHT else left
        must(1 <= count <= len(side), "that is not to be had at this side")
        if tree[0] == RIGHT:
            taken, right = right[:count], right[count:]
        else:
            taken, left = left[-count:], left[:-count]
        found += [count] + choices_of(part, taken, tree[2], supposed)
        tree = tree[1]
    must(tree == wanted and not left and not right, "something is left, or it's another atom")
    return found


def word_heads(node):
    if node[0] == "1":
        return word_heads(node[1])
    head, parts = node
    return ([head] if head[0] == 2 else []) + [found for part in parts for found in word_heads(part)]


def choices_of_words(told, row, wanted):
    """The choices for a row of words, each a list of trees: the words' kinds ahead of all."""
    node, end = parse(told)
    must(end == len(told), "there are bytes behind the reading")
    heads = sorted(word_heads(node))
    must([head[1] for head in heads] == list(range(len(row))), "not each word is a head once")
    must(all(head[2] < len(row[head[1]]) for head in heads), "a word has no such kind")
    kinds = [(row[head[1]][head[2]], head) for head in heads]
    return [head[2] for head in heads] + choices_of(node, kinds, wanted, 0)
