"""Flat floors: the places of tiles as three integers, and shifts."""

from foldfloor.border import third_letter
from foldfloor.errors import NoAnswer, NotFlat, TooLarge
from foldfloor.orders import LETTERS, MOST_LETTERS, PAIRS, check_orders, check_word, order_between

# The height of a flat floor, by its orders in ascending order.
HEIGHTS = {(3, 3, 3): 3, (2, 4, 4): 4, (2, 3, 6): 6}

# By the height: the marks of the letters of the column and the line, the remaining letter having 1.
MARKS = {3: (1, 1), 4: (2, 1), 6: (2, 3)}

# By the height: how often the column and the line count in each slope.
SLOPES = {
    3: ((1, 0), (0, 1), (1, 1)),
    4: ((1, 0), (0, 1), (1, 1), (2, 1)),
    6: ((1, 0), (0, 1), (1, 1), (1, 2), (1, 3), (2, 3)),
}

FIRST_PLACE = (1, 1, 1)


def height_of(orders):
    """The height of a flat floor, or None for other orders."""
    return HEIGHTS.get(tuple(sorted(orders)), None)


def axes_of(orders):
    """The letters of the column and of the line."""
    if height_of(orders) == 3:
        return "1", "2"
    low, high = [pair for order, pair in zip(orders, PAIRS) if order == 2][0]
    middle = third_letter((low, high))
    # The third letter has the order 3 with the middle one.
    return middle, low if order_between(orders, middle, high) == 3 else high


def marks_of(orders):
    """The marks of the letters 0, 1, 2."""
    column, line = axes_of(orders)
    across, up = MARKS[height_of(orders)]
    told = {column: across, line: up}
    return tuple([told.get(letter, 1) for letter in LETTERS])


def bend(orders, letter, other):
    """How often the number of a letter is added to that of another one."""
    order = order_between(orders, letter, other)
    if order == 2:
        return 0
    middle, line = axes_of(orders)
    if order == 4:
        return 2 if letter == middle else 1
    return 3 if order == 6 and letter == line else 1


def bends_of(orders):
    """For each letter, how often its number is added to those of the letters 0, 1, 2."""
    return [[bend(orders, letter, other) if other != letter else 0 for other in LETTERS] for letter in LETTERS]


def place_behind(bends, place, at):
    """The place of the tile of a word with the letter of an index more in front."""
    here = place[at]
    return tuple([-here if k == at else number + bends[at][k] * here for k, number in enumerate(place)])


def place_in(bends, word):
    """The place of the tile of a word."""
    place = FIRST_PLACE
    for letter in word[::-1]:
        place = place_behind(bends, place, LETTERS.index(letter))
    return place


def column_and_line(orders, place):
    """The column and the line of a place."""
    return tuple([place[LETTERS.index(letter)] for letter in axes_of(orders)])


def place_on(orders, column, line):
    """The three numbers that a column and a line tell."""
    across, up = MARKS[height_of(orders)]
    rest = height_of(orders) - across * column - up * line
    one, other = axes_of(orders)
    numbers = {one: column, other: line}
    return tuple([numbers.get(letter, rest) for letter in LETTERS])


def slopes_of(height, column, line):
    """The slopes of a place."""
    return [column * across + line * up for across, up in SLOPES[height]]


def is_tile_on(height, column, line):
    """Whether there is a tile on a column and a line."""
    return all([slope % height != 0 for slope in slopes_of(height, column, line)])


def is_place_of_tile(orders, numbers):
    """Whether three integers are the place of a tile."""
    column, line = column_and_line(orders, numbers)
    return numbers == place_on(orders, column, line) and is_tile_on(height_of(orders), column, line)


def many_steps(orders, numbers):
    """The number of the letters of the shortest words of a place's tile."""
    column, line = column_and_line(orders, numbers)
    whole = height_of(orders)
    return sum([abs(slope // whole) for slope in slopes_of(whole, column, line)])


def tile_of(orders, numbers):
    """The normal word of the tile with a place; raises TooLarge for a long one."""
    if many_steps(orders, numbers) > MOST_LETTERS:
        raise TooLarge(f"the shortest words of the tile have more than {MOST_LETTERS} letters")
    bends = bends_of(orders)
    letters = []
    while numbers != FIRST_PLACE:
        # A number is negative exactly if a shortest word begins with its letter.
        at = [number < 0 for number in numbers].index(True)
        letters.append(LETTERS[at])
        numbers = place_behind(bends, numbers, at)
    return "".join(letters)


def check_flat(orders):
    """Raises NotOrders, or NotFlat for orders that are not those of a flat floor without an order 0."""
    check_orders(orders)
    if height_of(orders) is None:
        raise NotFlat("the orders are 3, 3, 3, or 2, 4, 4, or 2, 3, 6 in some arrangement")


def check_tile(orders, numbers):
    """Raises NoAnswer for three integers that are not the place of a tile."""
    if not is_place_of_tile(orders, numbers):
        raise NoAnswer("no tile has this place")


def has_places(orders):
    """Whether orders are those of a flat floor without an order 0."""
    check_orders(orders)
    return height_of(orders) is not None


def height(orders):
    """The height of a flat floor."""
    check_flat(orders)
    return height_of(orders)


def marks(orders):
    """The marks of the letters 0, 1, 2."""
    check_flat(orders)
    return marks_of(orders)


def place(orders, word):
    """The place of the tile of a word."""
    check_flat(orders)
    check_word(word)
    return place_in(bends_of(orders), word)


def slopes(orders, place):
    """The list of the slopes of three integers."""
    check_flat(orders)
    column, line = column_and_line(orders, place)
    return slopes_of(height_of(orders), column, line)


def is_place(orders, place):
    """Whether three integers are the place of a tile."""
    check_flat(orders)
    return is_place_of_tile(orders, place)


def tile_at(orders, place):
    """The normal word of the tile with a place."""
    check_flat(orders)
    check_tile(orders, place)
    return tile_of(orders, place)


def steps_to(orders, place):
    """The number of the letters of the shortest words of the tile with a place."""
    check_flat(orders)
    check_tile(orders, place)
    return many_steps(orders, place)


def shifts_of(orders, word):
    """The differences of the places of the words '', '0', '1', '2' with a word in front and without it."""
    bends = bends_of(orders)
    found = []
    for tile in ["", "0", "1", "2"]:
        there, here = place_in(bends, word + tile), place_in(bends, tile)
        found.append(tuple([one - other for one, other in zip(there, here)]))
    return found


def are_equal(things):
    """Whether all things of a list are equal to the first one."""
    return all([thing == things[0] for thing in things])


def is_shift(orders, word):
    """Whether the motion of a word is a shift."""
    check_flat(orders)
    check_word(word)
    return are_equal(shifts_of(orders, word))


def shift_of(orders, word):
    """The difference that tells a shift."""
    check_flat(orders)
    check_word(word)
    found = shifts_of(orders, word)
    if not are_equal(found):
        raise NoAnswer("the motion is not a shift")
    return found[0]
