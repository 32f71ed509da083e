"""Rings and balls of tiles, and what lies around a corner."""

from foldfloor.depths import Floor, depths_behind, far_letters, first_depths, first_far, scale_for
from foldfloor.errors import BadNumber, NoAnswer, TooLarge
from foldfloor.orders import LETTERS, PAIRS, check_orders, check_two_letters, check_word, order_between
from foldfloor.series import series, terms

MOST_RING = 40

MOST_TILES = 2000


def counts(orders, n):
    """The numbers of the tiles in the rings 0 to n."""
    check_orders(orders)
    if not 0 <= n <= MOST_RING:
        raise BadNumber(f"a ring has a number from 0 to {MOST_RING}")
    found = terms(series(orders), n + 1)
    if max(found) > MOST_TILES:
        raise TooLarge(f"a ring has more than {MOST_TILES} tiles")
    return found


def next_ring(scale, row):
    """The tiles of the next ring, each a normal word with its depths, in order.

    A normal word without its first letter is normal, and the first letter is the least one with which
    a shortest word of the tile begins.
    """
    found = []
    for letter in LETTERS:
        for word, depths in row:
            behind = depths_behind(scale, depths, letter)
            if first_far(behind) == letter:
                found.append((letter + word, behind))
    return found


def rings_up_to(orders, n):
    """The rings 0 to n, each a list of normal words with their depths."""
    scale = scale_for(orders, n + 1)
    rings = [[("", first_depths(scale))]]
    for _ in range(n):
        rings.append(next_ring(scale, rings[-1]))
    return rings


def ring(orders, n):
    """The list of the tiles of the length n."""
    counts(orders, n)
    return [word for word, _ in rings_up_to(orders, n)[n]]


def ball(orders, n):
    """The list of the tiles of a length of at most n."""
    counts(orders, n)
    return [word for row in rings_up_to(orders, n) for word, _ in row]


def around(orders, tile, one, other):
    """The list of the tiles around a corner of a tile."""
    check_orders(orders)
    check_word(tile)
    check_two_letters(one, other)
    order = order_between(orders, one, other)
    if order == 0:
        raise NoAnswer("there is no corner for the order 0")
    floor = Floor(orders)
    return [floor.normal(tile + ((one + other) * order)[:many]) for many in range(2 * order)]


def cells(orders, n):
    """The numbers of the tiles, the sides and the corners of a ball."""
    counts(orders, n)
    tiles, sides, corners = 0, 0, 0
    finite = [pair for order, pair in zip(orders, PAIRS) if order != 0]
    # A side counts at the shorter one of its two tiles, where its letter is no end, and a corner at
    # the shortest tile around it, where neither letter is an end: the ball has that tile if it has
    # any of them. The letters with which shortest words begin serve for those with which they end,
    # as the inverses of the tiles of a ball are the tiles of the ball.
    for row in rings_up_to(orders, n):
        for _, depths in row:
            far = far_letters(depths)
            tiles += 1
            sides += 3 - len(far)
            corners += len([one for one, other in finite if one not in far and other not in far])
    return [tiles, sides, corners]
