"""Shortest ways between tiles."""

from foldfloor.depths import Floor, depths_behind, depths_of, far_letters
from foldfloor.errors import TooLarge
from foldfloor.orders import check_orders, check_word, check_words, in_order

MOST_BETWEEN = 2000


def way_between(floor, one, other):
    """The first one of the shortest ways from one tile to another one."""
    return floor.normal(one[::-1] + other)


def distance(orders, one, other):
    """The distance of two tiles."""
    check_orders(orders)
    check_words([one, other])
    return len(way_between(Floor(orders), one, other))


def numbers_below(floor, numbers):
    """The numbers of the ways to tiles, from those to the tiles that are one letter longer."""
    below = {}
    for tile, number in numbers.items():
        for letter in floor.ends(tile):
            less = floor.below(tile, letter)
            below[less] = below.get(less, 0) + number
    return below


def count_ways(orders, one, other):
    """The number of the shortest ways from one tile to another one."""
    check_orders(orders)
    check_words([one, other])
    floor = Floor(orders)
    # A motion takes the first tile to the one: the ways are counted back to the first tile.
    way = way_between(floor, one, other)
    numbers = {way: 1}
    for _ in range(len(way)):
        numbers = numbers_below(floor, numbers)
    return numbers[""]


def all_ways(orders, one, other):
    """All shortest ways from one tile to another one, as strings in ascending order."""
    check_orders(orders)
    check_words([one, other])
    floor = Floor(orders)
    way = way_between(floor, one, other)
    scale = floor.scale(2 * len(way))
    begun = [("", depths_of(scale, way))]
    while begun != []:
        start, depths = begun.pop()
        letters = far_letters(depths)
        if letters == "":
            yield start
        for letter in letters[::-1]:
            begun.append((start + letter, depths_behind(scale, depths, letter)))


def tiles_nearer(floor, tiles):
    """The tiles that are one letter nearer, by the shortest ways that lead to them."""
    nearer = {}
    for way, tile in tiles.items():
        for letter in floor.ends(way):
            less = floor.below(way, letter)
            if less not in nearer:
                nearer[less] = floor.normal(tile + letter)
    return nearer


def between(orders, one, other):
    """The list of the tiles between two tiles, in the order of words."""
    check_orders(orders)
    check_words([one, other])
    floor = Floor(orders)
    tiles = {way_between(floor, one, other): floor.normal(other)}
    found = []
    while tiles != {}:
        found.extend(list(tiles.values()))
        if len(found) > MOST_BETWEEN:
            raise TooLarge(f"more than {MOST_BETWEEN} tiles are between the two")
        tiles = tiles_nearer(floor, tiles)
    return in_order(found)


def is_between(orders, tile, one, other):
    """Whether a tile is between two tiles."""
    check_orders(orders)
    check_word(tile)
    check_words([one, other])
    floor = Floor(orders)
    first = len(way_between(floor, one, tile))
    second = len(way_between(floor, tile, other))
    return first + second == len(way_between(floor, one, other))
