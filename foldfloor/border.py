"""The border of a polygon: its circles, its corners and their angles, and the area within."""

from math import gcd

from foldfloor.depths import Floor
from foldfloor.errors import BadNumber, NoAnswer
from foldfloor.orders import LETTERS, PAIRS, check_orders, order_between
from foldfloor.polygons import all_sides, check_polygon, tiles_beyond


def lowest(above, below):
    """A fraction with a positive denominator, in lowest terms."""
    common = gcd(above, below)
    return above // common, below // common


def corner_of(one, other):
    """The corner between two sides, with the lesser letter first."""
    return min(one, other), max(one, other)


def other_letters(letter):
    """The two other letters, in ascending order."""
    return [other for other in LETTERS if other != letter]


def next_side(beyond, side, letter):
    """The border side behind a border side over its corner with another letter, and the passage."""
    tile, last = side
    corner = corner_of(last, letter)
    number = 1
    while (tile, letter) in beyond:
        tile = beyond[(tile, letter)]
        letter, last = last, letter
        number += 1
    return (tile, letter), (corner, number)


def third_letter(corner):
    """The letter that is none of the two of a corner."""
    return [letter for letter in LETTERS if letter not in corner][0]


def circle_from(beyond, side):
    """The circle that begins with a border side: its sides, each with the passage to the next one."""
    start = (side, other_letters(side[1])[0])
    here, letter = start
    found = []
    while found == [] or (here, letter) != start:
        there, passed = next_side(beyond, here, letter)
        found.append((here, passed))
        here, letter = there, third_letter(passed[0])
    return found


def circles_with_passages(polygon):
    """The circles of the border, each side with the passage over which one leaves it."""
    check_polygon(polygon)
    orders, tiles = polygon
    beyond = tiles_beyond(Floor(orders), tiles)
    met = {}
    found = []
    for side in all_sides(tiles):
        if side not in beyond and side not in met:
            circle = circle_from(beyond, side)
            found.append(circle)
            for there, _ in circle:
                met[there] = True
    return found


def passage(polygon, side, letter):
    """The border side behind a border side over its corner with another letter, and the passage."""
    check_polygon(polygon)
    orders, tiles = polygon
    beyond = tiles_beyond(Floor(orders), tiles)
    if side not in all_sides(tiles) or side in beyond:
        raise NoAnswer("the side is not a border side of the polygon")
    if letter not in other_letters(side[1]):
        raise BadNumber("the letter is one of the two other letters")
    return next_side(beyond, side, letter)


def circles(polygon):
    """The list of the circles of the border."""
    return [[side for side, _ in circle] for circle in circles_with_passages(polygon)]


def border_corners(polygon):
    """The list of the passages of all circles."""
    return [passed for circle in circles_with_passages(polygon) for _, passed in circle]


def angle(orders, passage):
    """The angle of a passage, as a part of half a turn."""
    check_orders(orders)
    (one, other), number = passage
    order = order_between(orders, one, other)
    return lowest(number, order) if order != 0 else (0, 1)


def tile_area(orders):
    """The area of a tile."""
    check_orders(orders)
    above, below = 1, 1
    for order in orders:
        if order != 0:
            above, below = above * order - below, below * order
    return lowest(above, below)


def area(polygon):
    """The area of a polygon."""
    check_polygon(polygon)
    orders, tiles = polygon
    above, below = tile_area(orders)
    return lowest(above * len(tiles), below)


def euler_number(polygon):
    """The number of the corners, minus that of the sides, plus that of the tiles."""
    passages = border_corners(polygon)
    orders, tiles = polygon
    corners = len(passages)
    for order, pair in zip(orders, PAIRS):
        if order != 0:
            at_border = sum([number for corner, number in passages if corner == pair])
            corners += (len(tiles) - at_border) // (2 * order)
    # A border side belongs to one tile, an inner side to two, and there is one passage a border side.
    sides = (3 * len(tiles) + len(passages)) // 2
    return corners - sides + len(tiles)


def is_disc(polygon):
    """Whether the border of a polygon is one circle."""
    return len(circles(polygon)) == 1
