"""Walls: the mirrors in which sides lie, and the tiles on their two sides."""

from foldfloor.depths import Floor
from foldfloor.errors import NoAnswer
from foldfloor.orders import check_letter, check_orders, check_word, check_words, in_order


def wall_at(floor, tile, letter):
    """The wall of a side."""
    return floor.normal(tile + letter + tile[::-1])


def walls_along(floor, tile, way):
    """The walls of the sides that a way leads over, in order."""
    walls = []
    here = floor.normal(tile)
    for letter in way:
        walls.append(wall_at(floor, here, letter))
        here = floor.normal(here + letter)
    return walls


def is_wall(floor, motion):
    """Whether a motion is a mirror."""
    word = floor.normal(motion)
    middle = len(word) // 2
    # A shortest way to the tile beyond a wall meets this wall in its middle.
    return len(word) % 2 == 1 and floor.normal(word[:middle][::-1]) == word[middle + 1:]


def check_wall(floor, word):
    """Raises NoAnswer for a word that is not the word of a mirror."""
    if not is_wall(floor, word):
        raise NoAnswer("the word is not a wall")


def lies_near(floor, wall, tile):
    """Whether a tile is on the same side of a wall as the first tile."""
    return len(floor.normal(wall + tile)) > len(floor.normal(tile))


def wall_of(orders, tile, letter):
    """The wall of a side."""
    check_orders(orders)
    check_word(tile)
    check_letter(letter)
    return wall_at(Floor(orders), tile, letter)


def crossings(orders, tile, way):
    """The list of the walls that a way from a tile on crosses."""
    check_orders(orders)
    check_words([tile, way])
    return walls_along(Floor(orders), tile, way)


def is_mirror(orders, motion):
    """Whether a motion is a mirror."""
    check_orders(orders)
    check_word(motion)
    return is_wall(Floor(orders), motion)


def is_near(orders, wall, tile):
    """Whether a tile is near a wall."""
    check_orders(orders)
    check_words([wall, tile])
    floor = Floor(orders)
    check_wall(floor, wall)
    return lies_near(floor, wall, tile)


def mirrored(orders, wall, tile):
    """The tile to which the mirror of a wall takes a tile."""
    check_orders(orders)
    check_words([wall, tile])
    floor = Floor(orders)
    check_wall(floor, wall)
    return floor.normal(wall + tile)


def sides_between(orders, wall, one, other):
    """Whether a wall parts two tiles."""
    check_orders(orders)
    check_words([wall, one, other])
    floor = Floor(orders)
    check_wall(floor, wall)
    return lies_near(floor, wall, one) != lies_near(floor, wall, other)


def parting(orders, one, other):
    """The list of the walls that part two tiles, in the order of words."""
    check_orders(orders)
    check_words([one, other])
    floor = Floor(orders)
    way = floor.normal(one[::-1] + other)
    return in_order(walls_along(floor, one, way))


def wall_moved(orders, motion, wall):
    """The wall to which a motion takes a wall."""
    check_orders(orders)
    check_words([motion, wall])
    floor = Floor(orders)
    check_wall(floor, wall)
    return floor.normal(motion + wall + motion[::-1])
