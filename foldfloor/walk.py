"""Ways over the open sides of maps, from place to place and on the floor."""

from foldfloor.errors import BadNumber, TooLarge
from foldfloor.orders import LETTERS, check_word, check_words, in_order
from foldfloor.ways import way_between

MOST_STEPS = 12

MOST_TILES = 1000

MOST_COUNTED = 200


def check_steps(steps):
    """Raises BadNumber for a number of letters that is beyond its limits."""
    if not 0 <= steps <= MOST_STEPS:
        raise BadNumber(f"open ways are looked for with 0 to {MOST_STEPS} letters")


def check_met(ways):
    """Raises TooLarge if a search met too many tiles."""
    if len(ways) > MOST_TILES:
        raise TooLarge(f"open ways lead to more than {MOST_TILES} tiles")


def open_letters(chart, place):
    """The letters of the open sides of a tile of the polygon, in ascending order."""
    return [letter for letter in LETTERS if (place, letter) not in chart.closed]


def ways_from(chart, place, steps, most, goal):
    """The first ways to the tiles to which open ways of at most so many letters lead.

    The ways begin at a tile with a place, and each tile is told by the normal word that leads to it
    from there, as motions of the group take open ways to open ways. The search ends early when it
    meets the goal, or more than so many tiles.
    """
    floor = chart.gluing.floor
    ways = {"": ""}
    row = [("", place)]
    for _ in range(steps):
        if goal in ways:
            return ways
        further = []
        for tile, here in row:
            for letter in open_letters(chart, here):
                there = floor.normal(tile + letter)
                if there not in ways:
                    ways[there] = ways[tile] + letter
                    further.append((there, chart.gluing.beyond(here, letter)))
                    if there == goal or len(ways) > most:
                        return ways
        row = further
    return ways


def first_way(chart, start, end):
    """The first way between the places of two tiles of the floor, or None."""
    check_words([start, end])
    first, last = chart.place_at(start), chart.place_at(end)
    ways = {first: ""}
    row = [first]
    while row != []:
        further = []
        for place in row:
            for letter in open_letters(chart, place):
                there = chart.gluing.beyond(place, letter)
                if there not in ways:
                    ways[there] = ways[place] + letter
                    further.append(there)
        row = further
    return ways.get(last, None)


def reach(chart, tile, steps):
    """The list of the tiles to which open ways of at most so many letters lead from a tile."""
    check_word(tile)
    check_steps(steps)
    ways = ways_from(chart, chart.place_at(tile), steps, MOST_TILES, None)
    check_met(ways)
    floor = chart.gluing.floor
    return in_order([floor.normal(tile + way) for way in ways])


def floor_way(chart, one, other, *, most=12):
    """The first way on the floor from one tile to another one with at most so many letters, or None."""
    check_words([one, other])
    check_steps(most)
    goal = way_between(chart.gluing.floor, one, other)
    ways = ways_from(chart, chart.place_at(one), most, MOST_TILES, goal)
    check_met(ways)
    return ways.get(goal, None)


def ends(chart, tile):
    """The number of the tiles that open ways lead to from a tile, or None for more than 200."""
    check_word(tile)
    # Each letter of a first way leads to one tile more.
    ways = ways_from(chart, chart.place_at(tile), MOST_COUNTED, MOST_COUNTED, None)
    return len(ways) if len(ways) <= MOST_COUNTED else None
