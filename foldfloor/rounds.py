"""Rounds: the tiles of a polygon that lie around one corner once its sides are paired."""

from foldfloor.errors import NotFitting
from foldfloor.gluing import Gluing
from foldfloor.orders import order_between
from foldfloor.pairing import check_pairing

CORNERS = (("0", "1"), ("0", "2"), ("1", "2"))


class Round:
    """The tiles to which words of two letters lead, in the walk, from one of them."""

    def __init__(self, first, second, tiles, is_open, turns):
        self.first = first
        self.second = second
        self.tiles = tiles
        self.is_open = is_open
        self.turns = turns

    def __len__(self):
        return len(self.tiles)


def tiles_in_turns(gluing, tile, letter, other):
    """The tiles that are met by two letters in turns, until the start or a tile that leads to itself.

    The second value is True if it was the start.
    """
    found = [tile]
    while True:
        there = gluing.beyond(found[-1], letter)
        if there == found[-1]:
            return found, False
        if there == tile:
            return found, True
        found.append(there)
        letter, other = other, letter


def turns_of(order, many, is_open):
    """The turns of a round of so many tiles, or None if it does not fit."""
    around = 2 * order if is_open else order
    return around // many if around % many == 0 else None


def round_at(gluing, tile, first, second):
    """The round of two letters to which a tile belongs, the first one of the round in the polygon."""
    tiles, is_open = tiles_in_turns(gluing, tile, first, second)
    if not is_open:
        back, _ = tiles_in_turns(gluing, tile, second, first)
        tiles = back[:0:-1] + tiles
        if gluing.tiles.index(tiles[0]) > gluing.tiles.index(tiles[-1]):
            tiles = tiles[::-1]
    order = order_between(gluing.orders, first, second)
    return Round(first, second, tuple(tiles), is_open, turns_of(order, len(tiles), is_open))


def rounds_in(gluing):
    """The rounds of a gluing, in order."""
    met = {}
    found = []
    for tile in gluing.tiles:
        for first, second in CORNERS:
            if (tile, first, second) not in met:
                around = round_at(gluing, tile, first, second)
                found.append(around)
                for there in around.tiles:
                    met[(there, first, second)] = True
    return found


def is_fitting(gluing):
    """Whether all rounds of a gluing fit."""
    return all([around.turns is not None for around in rounds_in(gluing)])


def fitting(polygon, pairs):
    """The gluing of a polygon and a pairing; raises what is wrong with them, or NotFitting."""
    check_pairing(polygon, pairs)
    gluing = Gluing(polygon, pairs)
    if not is_fitting(gluing):
        raise NotFitting("a round of the pairing does not fit")
    return gluing


def rounds_of(polygon, pairs):
    """The list of the rounds of a pairing."""
    check_pairing(polygon, pairs)
    return rounds_in(Gluing(polygon, pairs))


def fits(polygon, pairs):
    """Whether all rounds of a pairing fit."""
    check_pairing(polygon, pairs)
    return is_fitting(Gluing(polygon, pairs))


def overlap(polygon, pairs):
    """A row and the two tiles that show that a pairing does not fit, or None if it fits."""
    check_pairing(polygon, pairs)
    gluing = Gluing(polygon, pairs)
    for first, second in CORNERS:
        word = (first + second) * order_between(gluing.orders, first, second)
        for tile in gluing.tiles:
            there, row = gluing.walk(tile, word)
            if there != tile:
                return row, there, tile
    return None
