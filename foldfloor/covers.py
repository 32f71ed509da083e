"""Covers: larger polygons with pairings whose groups are lower groups of images."""

from foldfloor.copies import part_in
from foldfloor.errors import NoAnswer
from foldfloor.groups import relations_in
from foldfloor.images import degree_of, moves_nothing, reach_all, taken, taken_along, with_images
from foldfloor.orders import check_word
from foldfloor.polygons import polygon_within_limits


def with_cover(polygon, pairs, images):
    """The gluing of a polygon and a pairing; raises what is wrong, also if images have no cover."""
    gluing = with_images(polygon, pairs, images)
    if not moves_nothing(images, relations_in(gluing), degree_of(images)):
        raise NoAnswer("the images do not satisfy the pairing")
    if not reach_all(images):
        raise NoAnswer("the images are not transitive")
    return gluing


def rows_of(images):
    """The rows of the numbers below the degree of transitive images, in the order of the numbers."""
    rows = {0: ()}
    queue = [0]
    # The queue grows while it is read.
    at = 0
    while at < len(queue):
        s = queue[at]
        at += 1
        for k in range(len(images)):
            for number in (k + 1, -(k + 1)):
                there = taken(images, number, s)
                if there not in rows:
                    rows[there] = rows[s] + (number,)
                    queue.append(there)
    return [rows[s] for s in range(len(queue))]


def pairs_of_copies(gluing, images, found, larger):
    """The pairs of the cover, for the tiles of its copies; the tiles of the cover are keys."""
    pairs = []
    for s in range(len(found)):
        for k, ((one, letter), (other, _)) in enumerate(gluing.pairs):
            there = taken(images, k + 1, s)
            side = (found[s][other], letter)
            within = gluing.floor.normal(side[0] + letter) in larger
            if not within and (one != other or s <= there):
                pairs.append(((found[there][one], letter), side))
    return tuple(pairs)


def copy_rows(polygon, pairs, images):
    """The list of the rows of the numbers 0, 1, .. below the degree."""
    with_cover(polygon, pairs, images)
    return rows_of(images)


def cover(polygon, pairs, images):
    """The cover: a pair of a polygon and a pairing."""
    gluing = with_cover(polygon, pairs, images)
    found = [gluing.tiles_of_copy(row) for row in rows_of(images)]
    larger = polygon_within_limits(gluing.orders, [tile for tiles in found for tile in tiles.values()])
    inside = {tile: True for tile in larger[1]}
    return larger, pairs_of_copies(gluing, images, found, inside)


def in_lower(polygon, pairs, images, word):
    """Whether a word is one of the lower group."""
    gluing = with_cover(polygon, pairs, images)
    check_word(word)
    row, place = part_in(gluing, word + gluing.tiles[0])
    return place == gluing.tiles[0] and taken_along(images, row, 0) == 0


def is_regular(polygon, pairs, images):
    """Whether the lower group is normal in the group."""
    with_cover(polygon, pairs, images)
    # All products of the permutations: one that leaves 0 where it is must leave all numbers there.
    rest = tuple(range(degree_of(images)))
    found = {rest: True}
    queue = [rest]
    while queue != []:
        moved = queue.pop()
        if moved[0] == 0 and moved != rest:
            return False
        for permutation in images:
            further = tuple([permutation[s] for s in moved])
            if further not in found:
                found[further] = True
                queue.append(further)
    return True
