"""Hulls: the least convex sets of tiles that contain given tiles, and gates of corners."""

from foldfloor.depths import Floor
from foldfloor.errors import BadNumber, NoAnswer, TooLarge
from foldfloor.orders import LETTERS, PAIRS, check_orders, check_words, in_order
from foldfloor.polygons import MOST_TILES, polygon_within_limits
from foldfloor.walls import wall_at
from foldfloor.ways import way_between

MOST_WORDS = 60

MOST_HULL = 200


def check_given(orders, words):
    """Raises what is wrong with a list of words that tell tiles of a floor."""
    check_orders(orders)
    check_words(words)
    if words == []:
        raise NoAnswer("a hull needs a tile")
    if len(words) > MOST_WORDS:
        raise TooLarge(f"a hull is that of at most {MOST_WORDS} words")


def walls_parting(floor, words):
    """The walls that part some two of the tiles of some words, each a key."""
    # A wall that parts two of the tiles parts the first one from one of the two.
    first = floor.normal(words[0])
    sides = {}
    for word in words:
        here = first
        for letter in way_between(floor, first, word):
            sides[(here, letter)] = True
            here = floor.normal(here + letter)
    return {wall_at(floor, tile, letter): True for tile, letter in sides}


def tiles_within(floor, first, walls, most):
    """The tiles to which one comes from a tile by crossing some walls alone."""
    met = {first: True}
    queue = [first]
    while queue != []:
        tile = queue.pop()
        for letter in LETTERS:
            there = floor.normal(tile + letter)
            if there not in met and wall_at(floor, tile, letter) in walls:
                met[there] = True
                queue.append(there)
        if len(met) > most:
            raise TooLarge(f"the hull has more than {most} tiles")
    return list(met)


def hull_within(orders, words, most):
    """The tiles of the hull of the tiles of some words, if there are at most so many."""
    check_given(orders, words)
    floor = Floor(orders)
    return tiles_within(floor, floor.normal(words[0]), walls_parting(floor, words), most)


def parting_all(orders, words):
    """The list of the walls that part some two of the tiles of some words, in order."""
    check_given(orders, words)
    return in_order(list(walls_parting(Floor(orders), words)))


def hull(orders, words):
    """The list of the tiles of the hull of the tiles of some words, in order."""
    return in_order(hull_within(orders, words, MOST_HULL))


def is_convex(orders, words):
    """Whether the tiles of some words are a convex set."""
    tiles = hull_within(orders, words, MOST_HULL)
    floor = Floor(orders)
    given = {floor.normal(word): True for word in words}
    return len(given) == len(tiles)


def hull_polygon(orders, words):
    """The polygon of the hull of the tiles of some words."""
    return polygon_within_limits(orders, hull_within(orders, words, MOST_TILES))


def shortest_around(floor, tile, corner):
    """The normal word of the shortest tile around a corner of the tile of a normal word."""
    ends = [letter for letter in floor.ends(tile) if letter in corner]
    while ends != []:
        tile = floor.below(tile, ends[0])
        ends = [letter for letter in floor.ends(tile) if letter in corner]
    return tile


def gate(orders, word, tile, corner):
    """The tile around a corner of a tile that is nearest to the tile of a word."""
    check_orders(orders)
    check_words([word, tile])
    if corner not in PAIRS:
        raise BadNumber("a corner is a pair of two letters in ascending order")
    floor = Floor(orders)
    way = shortest_around(floor, way_between(floor, word, tile), corner)
    return floor.normal(word + way)
