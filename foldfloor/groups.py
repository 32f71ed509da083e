"""The group of a pairing that fits: its relations, its index, and comparing groups."""

from foldfloor.copies import is_in_group
from foldfloor.errors import BadNumber
from foldfloor.orders import LETTERS, order_between
from foldfloor.rounds import fitting, rounds_in


def relations_in(gluing):
    """The relations of a gluing: the rows of the mirrors, then those of the rounds."""
    found = [(k + 1, k + 1) for k, (one, other) in enumerate(gluing.pairs) if one == other]
    for around in rounds_in(gluing):
        # For the order 0 the word is empty, and so is the row.
        word = (around.first + around.second) * order_between(gluing.orders, around.first, around.second)
        _, row = gluing.walk(around.tiles[0], word)
        if row != ():
            found.append(row)
    return tuple(found)


def contains_pairs(gluing, other):
    """Whether the group of a gluing contains the motions of all pairs of another one."""
    return all([is_in_group(gluing, other.pair_word(k)) for k in range(len(other.pairs))])


def relations(polygon, pairs):
    """The tuple of the relations of a pairing."""
    return relations_in(fitting(polygon, pairs))


def index_of(polygon, pairs):
    """The index of the group: the number of the places."""
    return len(fitting(polygon, pairs).tiles)


def same_group(one, pairs, other, others):
    """Whether two pairings have the same group."""
    first = fitting(one, pairs)
    second = fitting(other, others)
    if first.orders != second.orders:
        raise BadNumber("the orders of the two polygons differ")
    return contains_pairs(first, second) and contains_pairs(second, first)


def is_normal(polygon, pairs):
    """Whether the group contains, with each motion, the one with a letter more on both sides."""
    gluing = fitting(polygon, pairs)
    words = [gluing.pair_word(k) for k in range(len(pairs))]
    return all([is_in_group(gluing, letter + word + letter) for word in words for letter in LETTERS])
