"""Pictures of flat floors: rows of signs for the tiles."""

from foldfloor.errors import Malformed, NoAnswer, TooLarge
from foldfloor.flat import bends_of, check_flat, column_and_line, height_of, is_tile_on, place_in, place_on
from foldfloor.flat import tile_of
from foldfloor.orders import check_words, in_order

MOST_WORDS = 60


def sign_at(whole, told, column, line):
    """The sign on a column and a line of a floor with some height; what is told is a key."""
    if (column, line) in told:
        return "#"
    return "." if is_tile_on(whole, column, line) else "-"


def picture(orders, words):
    """The picture of the tiles of a list of words."""
    check_flat(orders)
    check_words(words)
    if words == []:
        raise NoAnswer("a picture needs a tile")
    if len(words) > MOST_WORDS:
        raise TooLarge(f"a picture is that of at most {MOST_WORDS} words")
    bends = bends_of(orders)
    told = {column_and_line(orders, place_in(bends, word)): True for word in words}
    columns = [column for column, _ in told]
    lines = [line for _, line in told]
    whole = height_of(orders)
    across = range(min(columns), max(columns) + 1)
    rows = []
    for line in range(max(lines), min(lines) - 1, -1):
        rows.append("".join([sign_at(whole, told, column, line) for column in across]))
    return "\n".join(rows)


def width_of(text):
    """The number of the signs of the first row of a picture."""
    return text.index("\n") if "\n" in text else len(text)


def places_told(orders, text, corner):
    """The columns and lines with a tile that is told; raises Malformed for a text that is no picture."""
    column, line = corner
    whole = height_of(orders)
    width = width_of(text)
    if width == 0:
        raise Malformed(0)
    told = []
    for at, sign in enumerate(text):
        down, across = at // (width + 1), at % (width + 1)
        here = (column + across, line - down)
        if across == width:
            allowed = "\n"
        else:
            allowed = "#." if is_tile_on(whole, here[0], here[1]) else "-"
        if sign not in allowed:
            raise Malformed(at)
        if sign == "#":
            told.append(here)
    if len(text) % (width + 1) != width:
        raise Malformed(len(text))
    return told


def tiles_in(orders, picture_text, corner):
    """The list of the tiles that a picture tells, in order."""
    check_flat(orders)
    told = places_told(orders, picture_text, corner)
    return in_order([tile_of(orders, place_on(orders, column, line)) for column, line in told])
