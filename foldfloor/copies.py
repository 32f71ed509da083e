"""The copies of a polygon that lay out the floor: for each tile its copy and its place."""

from foldfloor.orders import check_word
from foldfloor.pairing import check_row
from foldfloor.rounds import fitting


def cut(gluing, row):
    """A row after cutting."""
    mirrors = {k + 1: True for k in gluing.mirrors.values()}
    left = []
    for number in row:
        kept = abs(number) if abs(number) in mirrors else number
        # A mirror is its own inverse.
        opposite = kept if kept in mirrors else -kept
        if left != [] and left[-1] == opposite:
            left.pop()
        else:
            left.append(kept)
    return tuple(left)


def part_in(gluing, tile):
    """The row of the copy in which the tile of a word lies, and its place."""
    first = gluing.tiles[0]
    place, row = gluing.walk(first, gluing.floor.normal(first[::-1] + tile))
    return cut(gluing, row), place


def is_in_group(gluing, word):
    """Whether a word is one of the group."""
    first = gluing.tiles[0]
    _, place = part_in(gluing, word + first)
    return place == first


def part_of(polygon, pairs, tile):
    """The row of the copy in which the tile of a word lies, and its place."""
    gluing = fitting(polygon, pairs)
    check_word(tile)
    return part_in(gluing, tile)


def place_of(polygon, pairs, tile):
    """The tile of the polygon that a motion of the group takes to the tile of a word."""
    gluing = fitting(polygon, pairs)
    check_word(tile)
    _, place = part_in(gluing, tile)
    return place


def cut_row(polygon, pairs, row):
    """A row after cutting."""
    gluing = fitting(polygon, pairs)
    check_row(pairs, row)
    return cut(gluing, row)


def in_group(polygon, pairs, word):
    """Whether a word is one of the group."""
    gluing = fitting(polygon, pairs)
    check_word(word)
    return is_in_group(gluing, word)


def copy_of(polygon, pairs, row):
    """The list of the tiles to which the motion of a row takes the tiles of the polygon."""
    gluing = fitting(polygon, pairs)
    check_row(pairs, row)
    return list(gluing.tiles_of_copy(row).values())
