"""Answers that show whether a pairing fits, for a checker that trusts nothing else."""

from foldfloor.copies import cut
from foldfloor.errors import TooLarge
from foldfloor.gluing import Gluing
from foldfloor.orders import LETTERS, order_between
from foldfloor.pairing import check_pairing
from foldfloor.rounds import CORNERS, is_fitting
from foldfloor.steps import MOST_LONG, MOST_STEPS, check_size, log_to_normal
from foldfloor.ways import all_ways, count_ways

MOST_LISTED = 500


def full_list(orders, word):
    """The list of all shortest words of the tile of a word, in ascending order."""
    if count_ways(orders, "", word) > MOST_LISTED:
        raise TooLarge(f"the tile has more than {MOST_LISTED} shortest words")
    return list(all_ways(orders, "", word))


def steps_around(at, word):
    """The log that puts a word backwards and then the word itself in at a place."""
    return [("put", at + k, letter) for k, letter in enumerate(word[::-1])]


def entry_of(gluing, tile, letter):
    """The entry of the table for a tile and a letter."""
    there, number = gluing.leads[(tile, letter)]
    if number == 0:
        log = log_to_normal(gluing.orders, tile + letter)
        check_size(log)
        return gluing.tiles.index(there), (), log
    # The motion word of the pair is the tile's word, the letter, and the other tile's word backwards.
    return gluing.tiles.index(there), (number,), steps_around(len(tile) + 1, there)


def table_of(gluing):
    """The table of a pairing that fits."""
    return tuple([tuple([entry_of(gluing, tile, letter) for letter in LETTERS]) for tile in gluing.tiles])


def row_word(gluing, row):
    """The motion word of a row."""
    words = []
    for number in row:
        word = gluing.pair_word(abs(number) - 1)
        words.append(word if number > 0 else word[::-1])
    return "".join(words)


def overlaps_of(gluing):
    """The walks around a corner that end at another tile, each as its row, its end and its beginning.

    Those whose rows have the shortest motion words come first.
    """
    found = []
    for first, second in CORNERS:
        word = (first + second) * order_between(gluing.orders, first, second)
        for tile in gluing.tiles:
            there, noted = gluing.walk(tile, word)
            if there != tile:
                row = cut(gluing, noted)
                found.append((len(row_word(gluing, row) + there), row, there, tile))
    return [(row, there, tile) for _, row, there, tile in sorted(found)]


def listed(orders, tile):
    """The full list of a tile, or None if it is too large."""
    try:
        return full_list(orders, tile)
    except TooLarge:
        return None


def log_within_limits(gluing, row, tile):
    """A log from the motion word of a row and the word of a tile to a normal word, or None."""
    word = row_word(gluing, row) + tile
    if len(word) > MOST_LONG:
        return None
    log = log_to_normal(gluing.orders, word)
    return log if len(log) <= MOST_STEPS else None


def certificate_of(gluing):
    """The overlap certificate of a pairing that does not fit."""
    for row, one, other in overlaps_of(gluing):
        log = log_within_limits(gluing, row, one)
        if log is not None:
            first, second = listed(gluing.orders, one), listed(gluing.orders, other)
            if first is not None and second is not None:
                return row, gluing.tiles.index(one), gluing.tiles.index(other), log, first, second
    raise TooLarge("each overlap that was found needs a log or a list that is too large")


def answer_of(polygon, pairs):
    """An answer that shows whether a pairing fits."""
    check_pairing(polygon, pairs)
    gluing = Gluing(polygon, pairs)
    if is_fitting(gluing):
        return "fits", table_of(gluing)
    return "overlaps", certificate_of(gluing)
