"""Polygons: sets of joined tiles of a floor."""

from foldfloor.depths import Floor
from foldfloor.errors import NotPolygon, TooLarge
from foldfloor.orders import LETTERS, MOST_LETTERS, check_orders, check_word, check_words, in_order
from foldfloor.orders import is_orders, is_word

MOST_TILES = 60


def are_in_order(words):
    """Whether words are different and in the order of words."""
    ranks = [(len(word), word) for word in words]
    return all([one < other for one, other in zip(ranks, ranks[1:])])


def sides_within(floor, tiles):
    """The inner sides: each one is a key twice, True for the earlier one of its two tiles."""
    inside = {tile: True for tile in tiles}
    found = {}
    for tile in tiles:
        for letter in floor.ends(tile):
            below = floor.below(tile, letter)
            if below in inside:
                found[(below, letter)] = True
                found[(tile, letter)] = False
    return found


def tiles_beyond(floor, tiles):
    """The tile beyond each inner side of some tiles."""
    return {(tile, letter): floor.normal(tile + letter) for tile, letter in sides_within(floor, tiles)}


def are_joined(floor, tiles):
    """Whether one comes from each of some normal words to each other one without leaving them."""
    inner = sides_within(floor, tiles)
    reached = {tiles[0]: True}
    queue = [tiles[0]]
    while queue != []:
        tile = queue.pop()
        for letter in LETTERS:
            if (tile, letter) in inner:
                there = floor.normal(tile + letter)
                if there not in reached:
                    reached[there] = True
                    queue.append(there)
    return len(reached) == len(tiles)


def is_polygon(polygon):
    """Whether a tuple of a tuple of integers and a tuple of strings is a polygon."""
    if len(polygon) != 2:
        return False
    orders, tiles = polygon
    if not is_orders(orders) or not 1 <= len(tiles) <= MOST_TILES:
        return False
    if not all([is_word(tile, MOST_LETTERS) for tile in tiles]) or not are_in_order(tiles):
        return False
    floor = Floor(orders)
    if not all([floor.normal(tile) == tile for tile in tiles]):
        return False
    return are_joined(floor, tiles)


def check_polygon(polygon):
    """Raises NotPolygon for a tuple that is not a polygon."""
    if not is_polygon(polygon):
        raise NotPolygon("a polygon has orders, and 1 to 60 joined tiles as normal words in order")


def polygon_of(orders, words):
    """The polygon whose tiles are those of a list of words."""
    check_orders(orders)
    check_words(words)
    floor = Floor(orders)
    tiles = {floor.normal(word): True for word in words}
    polygon = (orders, tuple(in_order(list(tiles))))
    check_polygon(polygon)
    return polygon


def contains(polygon, word):
    """Whether the tile of a word belongs to a polygon."""
    check_polygon(polygon)
    check_word(word)
    orders, tiles = polygon
    return Floor(orders).normal(word) in tiles


def all_sides(tiles):
    """The sides of some tiles, in order."""
    return [(tile, letter) for tile in tiles for letter in LETTERS]


def border_sides(polygon):
    """The list of the border sides of a polygon."""
    check_polygon(polygon)
    orders, tiles = polygon
    inner = sides_within(Floor(orders), tiles)
    return [side for side in all_sides(tiles) if side not in inner]


def inner_sides(polygon):
    """The list of the inner sides of a polygon, each with the earlier one of its two tiles."""
    check_polygon(polygon)
    orders, tiles = polygon
    inner = sides_within(Floor(orders), tiles)
    return [side for side in all_sides(tiles) if inner.get(side, False)]


def polygon_within_limits(orders, tiles):
    """The polygon of some joined tiles; raises TooLarge if there is none."""
    if len(tiles) > MOST_TILES:
        raise TooLarge(f"a polygon has at most {MOST_TILES} tiles")
    if max([len(tile) for tile in tiles]) > MOST_LETTERS:
        raise TooLarge(f"the normal words of a polygon have at most {MOST_LETTERS} letters")
    return orders, tuple(in_order(tiles))


def grown(polygon):
    """The polygon with all tiles beyond its border sides besides."""
    border = border_sides(polygon)
    orders, tiles = polygon
    floor = Floor(orders)
    larger = {tile: True for tile in tiles}
    for tile, letter in border:
        larger[floor.normal(tile + letter)] = True
    return polygon_within_limits(orders, list(larger))


def moved(polygon, word):
    """The polygon to which the motion of a word takes a polygon."""
    check_polygon(polygon)
    check_word(word)
    orders, tiles = polygon
    floor = Floor(orders)
    return polygon_within_limits(orders, [floor.normal(word + tile) for tile in tiles])
