"""Polygons with pairings for the tests, and slow answers by the definitions."""

import random
from functools import lru_cache

from foldfloor.errors import NotFitting, NotPairing, NotPolygon
from foldfloor.words import Tiles
from tests.reference import ALL, LETTERS, Reference, order_of, rank
from tests.test_border import NOT_POLYGONS
from tests.test_polygons import slow_sides, some_polygon

CORNERS = [("0", "1"), ("0", "2"), ("1", "2")]


@lru_cache(maxsize=None)
def reference(orders):
    return Reference(orders)


@lru_cache(maxsize=None)
def border_of(polygon):
    return slow_sides(reference(polygon[0]), polygon)[0]


def involutions(things):
    """All ways to put things into pairs or to leave them alone, each a list of pairs."""
    if not things:
        return [[]]
    first, rest = things[0], things[1:]
    found = [[(first, first)] + more for more in involutions(rest)]
    for at, other in enumerate(rest):
        left = rest[:at] + rest[at + 1:]
        found += [[(first, other)] + more for more in involutions(left)]
    return found


def every_pairing(polygon):
    """All pairings of a polygon with few border sides, up to exchanging pairs and sides."""
    found = [[]]
    for letter in LETTERS:
        sides = [side for side in border_of(polygon) if side[1] == letter]
        found = [one + more for one in found for more in involutions(sides)]
    return [tuple(pairs) for pairs in found]


def mixed(pairs, source):
    """A pairing with its pairs and their sides exchanged."""
    found = [pair if source.random() < 0.5 else pair[::-1] for pair in pairs]
    source.shuffle(found)
    return tuple(found)


def some_pairing(polygon, source):
    """A pairing, perhaps with many mirrors."""
    pairs = []
    chance = source.choice((0.1, 0.5, 0.9))
    for letter in LETTERS:
        sides = [side for side in border_of(polygon) if side[1] == letter]
        source.shuffle(sides)
        while sides:
            one = sides.pop()
            pairs.append((one, sides.pop()) if sides and source.random() > chance else (one, one))
    return mixed(pairs, source)


def some_gluings(seed=0):
    """Polygons with pairings of all kinds; most of them do not fit."""
    source = random.Random(seed)
    found = []
    for orders in ALL:
        for many in (1, 2, 3, 6, 11):
            polygon = some_polygon(orders, many, source.randint(0, 99))
            found.append((polygon, some_pairing(polygon, source)))
    return found


def some_involution(many, source, chance=0.8):
    """A permutation that is its own inverse."""
    row = list(range(many))
    left = list(range(many))
    source.shuffle(left)
    while len(left) > 1:
        one, other = left.pop(), left.pop()
        if source.random() < chance:
            row[one], row[other] = other, one
    return row


def some_exchange(many, source, chance):
    """A permutation that is its own inverse and takes odd numbers to even ones."""
    row = list(range(many))
    even, odd = row[::2], row[1::2]
    source.shuffle(even)
    for one, other in zip(even, odd):
        if source.random() < chance:
            row[one], row[other] = other, one
    return row


@lru_cache(maxsize=None)
def large_gluings():
    """Polygons with more tiles whose pairings fit: surfaces with handles, rims and holes."""
    source = random.Random(21)
    found = []
    for orders in ((0, 0, 0), (0, 0, 2), (4, 0, 0), (12, 12, 12), (6, 6, 6), (4, 4, 4)):
        for many in (6, 10, 14, 22):
            for chance in (1, 0.9, 0.7):
                for choose in (some_involution, some_exchange):
                    for _ in range(200):
                        rows = [choose(many, source, chance) for _ in LETTERS]
                        if acts(rows, orders):
                            found.append(polygon_from(orders, rows, source, ""))
                            break
    return tuple(found)


def permuted(orders, many, source):
    """Three permutations that are their own inverses, with the orders of a floor, or None."""
    for _ in range(3000):
        rows = [some_involution(many, source) for _ in LETTERS]
        if acts(rows, orders):
            return rows
    return None


def acts(rows, orders):
    return all(acts_rightly(rows, orders, *corner) for corner in CORNERS) and joins_all(rows)


def acts_rightly(rows, orders, one, other):
    order = order_of(orders, one, other)
    for start in range(len(rows[0])):
        at = start
        for letter in (one + other) * order:
            at = rows[int(letter)][at]
        if at != start:
            return False
    return True


def joins_all(rows):
    met = [0]
    for at in met:
        met += [row[at] for row in rows if row[at] not in met]
    met = set(met)
    return len(met) == len(rows[0])


def some_start(orders, source):
    return Tiles(orders).normal("".join(source.choice(LETTERS) for _ in range(source.choice((0, 0, 4)))))


def polygon_from(orders, rows, source, start):
    """A polygon with a tile for each number and a pairing such that the walk acts as permutations.

    The number 0 gets the first tile.
    """
    floor = Tiles(orders)
    tiles = {0: start}
    while len(tiles) < len(rows[0]):
        at = source.choice(sorted(tiles))
        letter = source.choice(LETTERS)
        there = rows[int(letter)][at]
        if there not in tiles:
            tiles[there] = floor.beyond(tiles[at], letter)
    polygon = orders, tuple(sorted(tiles.values(), key=rank))
    pairs = {tuple(sorted([(tiles[at], letter), (tiles[rows[int(letter)][at]], letter)]))
             for at in tiles for letter in LETTERS if (tiles[at], letter) in border_of(polygon)}
    return polygon, mixed(sorted(pairs), source)


@lru_cache(maxsize=None)
def twins():
    """Pairs of polygons with pairings that have the same group."""
    source = random.Random(12)
    found = []
    for orders in ALL:
        for many in (1, 2, 3, 4, 6):
            rows = permuted(orders, many, source)
            if rows is not None:
                start = some_start(orders, source)
                found.append([polygon_from(orders, rows, source, start) for _ in range(2)])
    return tuple(found)


@lru_cache(maxsize=None)
def fitting_gluings():
    """Polygons with pairings that fit, on floors of each kind."""
    source = random.Random(5)
    found = []
    for orders in ALL:
        for many in (1, 2, 3, 4, 6, 8):
            rows = permuted(orders, many, source)
            if rows is not None:
                found.append(polygon_from(orders, rows, source, some_start(orders, source)))
    for orders in ((2, 2, 2), (3, 3, 2), (2, 5, 2), (3, 4, 2)):
        tiles = tuple(tile for ring in reference(orders).rings(12) for tile in ring)
        found.append(((orders, tiles), ()))
    return tuple(found)


def pair_word(pair):
    """The word of the motion of a pair."""
    (one, letter), (other, _) = pair
    return other + letter + one[::-1]


def row_word(pairs, row):
    """The word of the motion of a row."""
    words = [pair_word(pairs[abs(number) - 1])[::1 if number > 0 else -1] for number in row]
    return "".join(words)


def slow_step(polygon, pairs, tile, letter):
    """The tile to which the walk leads over a side, and the integer that it notes, or None."""
    orders, tiles = polygon
    there = reference(orders).normal(tile + letter)
    if there in tiles:
        return there, None
    side = tile, letter
    for k, (one, other) in enumerate(pairs):
        if other == side:
            return one[0], k + 1
        if one == side:
            return other[0], -(k + 1)
    raise AssertionError("a border side without a pair")


def slow_walk(polygon, pairs, tile, word):
    """The tile at the end of a walk, and the noted row."""
    row = []
    for letter in word:
        tile, number = slow_step(polygon, pairs, tile, letter)
        if number is not None:
            row.append(number)
    return tile, tuple(row)


def slow_round(polygon, pairs, tile, one, other):
    """The set of the tiles to which words of two letters lead in the walk."""
    found = [tile]
    for at in found:
        for letter in (one, other):
            there = slow_step(polygon, pairs, at, letter)[0]
            if there not in found:
                found.append(there)
    return set(found)


def slow_overlap(polygon, pairs):
    """The first walk around a corner that does not lead back, or None."""
    orders, tiles = polygon
    for one, other in CORNERS:
        for tile in tiles:
            end, row = slow_walk(polygon, pairs, tile, (one + other) * order_of(orders, one, other))
            if end != tile:
                return row, end, tile
    return None


def slow_cut(pairs, row):
    """A row after cutting, the last two neighbours that cut each other first."""
    row = [abs(number) if pairs[abs(number) - 1][0] == pairs[abs(number) - 1][1] else number
           for number in row]
    at = len(row) - 2
    while at >= 0:
        one, other = row[at], row[at + 1]
        mirror = one == other and pairs[abs(one) - 1][0] == pairs[abs(one) - 1][1]
        if one + other == 0 or mirror:
            del row[at:at + 2]
            at = len(row) - 1
        at -= 1
    return tuple(row)


@lru_cache(maxsize=None)
def wrong_gluings():
    """Polygons with pairings that are refused, each with the error."""
    unfit = [gluing for gluing in some_gluings() if slow_overlap(*gluing) is not None]
    assert len(unfit) > 20
    found = [(polygon, pairs, NotFitting) for polygon, pairs in unfit[::5]]
    found += [(polygon, pairs[1:], NotPairing) for polygon, pairs in unfit[::5]]
    return tuple(found + [(polygon, (), NotPolygon) for polygon in NOT_POLYGONS])


def some_row(pairs, most, source):
    """A row of a pairing with at most so many integers."""
    many = source.randint(0, most) if pairs else 0
    return tuple(source.choice((1, -1)) * source.randint(1, len(pairs)) for _ in range(many))
