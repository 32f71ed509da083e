"""Motions of a floor: their orders and kinds, and where mirrors and turns stand."""

from foldfloor.border import corner_of, third_letter
from foldfloor.depths import Floor
from foldfloor.errors import NoAnswer
from foldfloor.hulls import shortest_around
from foldfloor.orders import LETTERS, check_orders, check_word, check_words, kind_of, order_between
from foldfloor.steps import in_turns
from foldfloor.walls import is_wall

MOST_ORDER = 24

# On a floor that is not round a motion with an order is a mirror or a turn around a corner ([204]).
MOST_TURN = 12


def order_in(floor, word):
    """The order of the motion of a normal word, or None."""
    most = MOST_ORDER if kind_of(floor.orders) == "round" else MOST_TURN
    power = word
    for k in range(1, most + 1):
        if power == "":
            return k
        power = floor.normal(power + word)
    return None


def kind_in(floor, word):
    """The kind of the motion of a normal word."""
    if word == "":
        return "rest"
    if is_wall(floor, word):
        return "mirror"
    is_even = len(word) % 2 == 0
    if order_in(floor, word) is None:
        return "shift" if is_even else "glide"
    return "turn" if is_even else "turned mirror"


def order_of_motion(orders, word):
    """The order of a motion, or None."""
    check_orders(orders)
    check_word(word)
    floor = Floor(orders)
    return order_in(floor, floor.normal(word))


def kind_of_motion(orders, word):
    """The kind of a motion."""
    check_orders(orders)
    check_word(word)
    floor = Floor(orders)
    return kind_in(floor, floor.normal(word))


def conjugated(floor, word, by):
    """The normal word of the inverse of a word, a motion and the word."""
    return floor.normal(by[::-1] + word + by)


def conjugate(orders, word, by):
    """The conjugate of a motion by a word."""
    check_orders(orders)
    check_words([word, by])
    return conjugated(Floor(orders), word, by)


def mirror_place(orders, word):
    """A word and a letter of a side whose two tiles a mirror exchanges."""
    check_orders(orders)
    check_word(word)
    floor = Floor(orders)
    if not is_wall(floor, word):
        raise NoAnswer("the motion is not a mirror")
    # A shortest way to the tile beyond a wall meets this wall in its middle.
    way = floor.normal(word)
    middle = len(way) // 2
    return way[:middle], way[middle]


def side_on_line(floor, word):
    """A side whose wall goes through the corner that a turn fixes, the turn told by its normal word.

    Some walls through this corner part the first tile from that of the word, so its letters cross
    them. The turn and the mirror of such a wall together are the mirror of another wall through the
    corner, and their word is that of the turn without the letter that crosses the wall. For a wall
    that goes elsewhere they are no mirror: two mirrors that make a turn meet in its corner.
    """
    places = [at for at in range(len(word)) if is_wall(floor, word[:at] + word[at + 1:])]
    return word[:places[0]], word[places[0]]


def fixes_corner(floor, word, tile, one, other):
    """Whether a motion takes the corner of two letters of a tile to itself."""
    return all([letter in (one, other) for letter in conjugated(floor, word, tile)])


def next_on_line(floor, tile, letter, other):
    """The side of the same wall behind a side over its corner with another letter.

    The tile stays on the same side of the wall. The second letter that is returned is that of the
    next corner of the new side. There is nothing, None, behind a corner of the order 0.
    """
    order = order_between(floor.orders, letter, other)
    if order == 0:
        return None
    there = floor.normal(tile + in_turns(other, letter, order - 1))
    return there, letter if order % 2 == 0 else other, third_letter((letter, other))


def corner_on_line(floor, word, tile, letter):
    """The corner that a motion fixes, on the wall of a side: a tile and two letters."""
    row = [(tile, letter, other) for other in LETTERS if other != letter]
    # The corner may lie in either direction, and in one of them it does.
    while True:
        for here, one, other in row:
            if fixes_corner(floor, word, here, one, other):
                return here, one, other
        further = [next_on_line(floor, here, one, other) for here, one, other in row]
        row = [place for place in further if place is not None]


def turn_place(orders, word):
    """A tile, the two letters of a corner of it, and how far a turn takes the tiles around it."""
    check_orders(orders)
    check_word(word)
    floor = Floor(orders)
    way = floor.normal(word)
    if kind_of(orders) == "round" or kind_in(floor, way) != "turn":
        raise NoAnswer("the motion is not a turn of a floor that is not round")
    tile, letter = side_on_line(floor, way)
    tile, one, other = corner_on_line(floor, way, tile, letter)
    first, second = corner_of(one, other)
    tile = shortest_around(floor, tile, (first, second))
    turned = conjugated(floor, way, tile)
    many = len(turned) // 2
    if turned[0] == second:
        many = order_between(orders, first, second) - many
    return tile, first, second, many


def moved(orders, word, tile):
    """The tile to which a motion takes a tile."""
    check_orders(orders)
    check_words([word, tile])
    return Floor(orders).normal(word + tile)
