"""Pairings of the border sides of a polygon, and the walk over its tiles."""

from foldfloor.errors import BadNumber, NotPairing, NotRow
from foldfloor.gluing import Gluing
from foldfloor.orders import check_word
from foldfloor.polygons import border_sides

MOST_ROW = 200


def is_pair_of(sides, pair):
    """Whether a tuple is a pair of some sides, both with the same letter."""
    if len(pair) != 2:
        return False
    one, other = pair
    return one in sides and other in sides and one[1] == other[1]


def is_pairing(polygon, pairs):
    """Whether a tuple of pairs of sides is a pairing of a polygon."""
    left = {side: True for side in border_sides(polygon)}
    for pair in pairs:
        if not is_pair_of(left, pair):
            return False
        for side in pair:
            left.pop(side, None)
    return left == {}


def check_pairing(polygon, pairs):
    """Raises NotPairing for a tuple that is not a pairing of a polygon."""
    if not is_pairing(polygon, pairs):
        raise NotPairing("each border side is in one pair, with itself or one of the same letter")


def check_row(pairs, row):
    """Raises NotRow for a tuple that is not a row of a pairing."""
    if len(row) > MOST_ROW:
        raise NotRow(f"a row has at most {MOST_ROW} integers")
    for number in row:
        if not 1 <= abs(number) <= len(pairs):
            raise NotRow("an integer of the row has no pair")


def mirrors(polygon):
    """The pairing in which each border side is a mirror."""
    return tuple([(side, side) for side in border_sides(polygon)])


def pair_motion(polygon, pairs, k):
    """The normal word of the motion of a pair."""
    check_pairing(polygon, pairs)
    if not 0 <= k < len(pairs):
        raise BadNumber("there is no pair with this number")
    return Gluing(polygon, pairs).row_motion((k + 1,))


def row_motion(polygon, pairs, row):
    """The normal word of the motion of a row."""
    check_pairing(polygon, pairs)
    check_row(pairs, row)
    return Gluing(polygon, pairs).row_motion(row)


def walked(polygon, pairs, tile, word):
    """The tile at the end of the walk from a tile along a word, and the noted row."""
    check_pairing(polygon, pairs)
    if tile not in polygon[1]:
        raise BadNumber("the tile is none of the polygon's")
    check_word(word)
    return Gluing(polygon, pairs).walk(tile, word)
