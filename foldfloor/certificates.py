"""Checks of logs, tables and certificates, without any search and without normal words.

Nothing but the errors is imported, so that what is shown here need not trust the rest of the program.
What is given may be wrong in any way: forms are looked at before anything is read.
"""

from foldfloor.errors import NotOrders, NotWord

LETTERS = ("0", "1", "2")

# The pairs of letters that a floor's three orders belong to, one by one.
CORNERS = (("0", "1"), ("1", "2"), ("0", "2"))

# The most letters of words that are given, and of words in logs.
MOST_GIVEN = 60
MOST_LONG = 200

# The most integers of a row in a table, and in an overlap certificate.
MOST_IN_TABLE = 3
MOST_IN_OVERLAP = 60


def is_integer(value):
    """Whether a value is an integer."""
    return isinstance(value, int) and not isinstance(value, bool)


def is_sequence(value, many):
    """Whether a value is a tuple of so many things."""
    return isinstance(value, tuple) and len(value) == many


def is_listing(value):
    """Whether a value is a list or a tuple."""
    return isinstance(value, (list, tuple))


def is_orders(orders):
    """Whether a value is the orders of a floor."""
    if not is_sequence(orders, 3):
        return False
    return all([is_integer(order) and (order == 0 or 2 <= order <= 12) for order in orders])


def is_word(word, most):
    """Whether a value is a word of at most so many letters."""
    return isinstance(word, str) and len(word) <= most and all([letter in LETTERS for letter in word])


def check(orders, words, most):
    """Raises NotOrders, or NotWord for words with other characters or too many letters."""
    if not is_orders(orders):
        raise NotOrders("orders are three integers, each 0 or from 2 to 12")
    if not all([is_word(word, most) for word in words]):
        raise NotWord(f"a word has at most {most} letters, each 0, 1 or 2")


def check_tiles(polygon):
    """Raises NotOrders, or NotWord, for what stands in a polygon."""
    orders, tiles = polygon
    check(orders, tiles, MOST_GIVEN)


def order_of(orders, one, other):
    """The order of two different letters."""
    return [order for order, corner in zip(orders, CORNERS) if one in corner and other in corner][0]


def in_turns(one, other, many):
    """The word of so many letters that are the two letters in turns."""
    return ((one + other) * many)[:many]


def with_put(word, at, letter):
    """The word with a letter put in twice, or None if that is not allowed."""
    if letter not in LETTERS or not 0 <= at <= len(word) or len(word) + 2 > MOST_LONG:
        return None
    return word[:at] + letter + letter + word[at:]


def with_cut(word, at):
    """The word without two equal letters, or None if they are not there."""
    if not 0 <= at < len(word) - 1 or word[at] != word[at + 1]:
        return None
    return word[:at] + word[at + 2:]


def with_turn(orders, word, at, one, other):
    """The word with the letters from a place on turned, or None if that is not allowed."""
    if one not in LETTERS or other not in LETTERS or one == other or at < 0:
        return None
    many = order_of(orders, one, other)
    if many == 0 or word[at:at + many] != in_turns(one, other, many):
        return None
    return word[:at] + in_turns(other, one, many) + word[at + many:]


def with_step(orders, word, step):
    """The word after a step, or None if the step is not allowed."""
    if not isinstance(step, tuple) or len(step) < 2 or not is_integer(step[1]):
        return None
    if step[0] == "put" and len(step) == 3:
        return with_put(word, step[1], step[2])
    if step[0] == "cut" and len(step) == 2:
        return with_cut(word, step[1])
    if step[0] == "turn" and len(step) == 4:
        return with_turn(orders, word, step[1], step[2], step[3])
    return None


def leads(orders, start, end, log):
    """Whether a log leads from one word to another one, both of at most 200 letters."""
    if not is_listing(log) or len(start) > MOST_LONG or len(end) > MOST_LONG:
        return False
    word = start
    for step in log:
        word = with_step(orders, word, step)
        if word is None:
            return False
    return word == end


def turned(orders, word):
    """The words to which one turn leads from a word."""
    found = [with_turn(orders, word, at, one, other) for at, one in enumerate(word) for other in LETTERS]
    return [there for there in found if there is not None]


def is_complete(orders, words):
    """Whether some words, at least one, are all without equal neighbours, and turns stay among them."""
    inside = {word: True for word in words}
    for word in words:
        if not all([one != other for one, other in zip(word, word[1:])]):
            return False
        if not all([there in inside for there in turned(orders, word)]):
            return False
    return len(words) > 0


def is_full_list(orders, words):
    """Whether a value is a full list."""
    if not is_listing(words) or not all([is_word(word, MOST_LONG) for word in words]):
        return False
    return is_complete(orders, words)


def is_side(tiles, side):
    """Whether a value is a side of one of some tiles."""
    return is_sequence(side, 2) and side[0] in tiles and side[1] in LETTERS


def are_pairs(tiles, pairs):
    """Whether a value is a tuple of pairs of sides of some tiles, with the same letter in both."""
    if not isinstance(pairs, tuple) or not all([is_sequence(pair, 2) for pair in pairs]):
        return False
    if not all([is_side(tiles, side) for pair in pairs for side in pair]):
        return False
    return all([one[1] == other[1] for one, other in pairs])


def is_index(tiles, value):
    """Whether a value is the index of one of some tiles."""
    return is_integer(value) and 0 <= value < len(tiles)


def is_row(pairs, row, most):
    """Whether a value is a row of at most so many integers that have pairs."""
    if not isinstance(row, tuple) or len(row) > most:
        return False
    return all([is_integer(number) and 1 <= abs(number) <= len(pairs) for number in row])


def pair_word(pair):
    """The motion word of a pair."""
    (one, letter), (other, _) = pair
    return other + letter + one[::-1]


def row_word(pairs, row):
    """The motion word of a row."""
    words = []
    for number in row:
        word = pair_word(pairs[abs(number) - 1])
        words.append(word if number > 0 else word[::-1])
    return "".join(words)


def has_entry_form(tiles, pairs, entry):
    """Whether a value has the form of an entry; its log is not looked at."""
    return is_sequence(entry, 3) and is_index(tiles, entry[0]) and is_row(pairs, entry[1], MOST_IN_TABLE)


def has_table_form(tiles, pairs, table):
    """Whether a value has the form of a table; its logs are not looked at."""
    if not is_sequence(table, len(tiles)) or not all([is_sequence(row, len(LETTERS)) for row in table]):
        return False
    return all([has_entry_form(tiles, pairs, entry) for row in table for entry in row])


def index_along(table, at, word):
    """The index to which the entries of the letters of a word lead."""
    for letter in word:
        at = table[at][LETTERS.index(letter)][0]
    return at


def are_logs_right(polygon, pairs, table):
    """Whether each log leads to the motion word of its row, followed by the word of its tile."""
    orders, tiles = polygon
    for tile, row in zip(tiles, table):
        for letter, (there, numbers, log) in zip(LETTERS, row):
            if not leads(orders, tile + letter, row_word(pairs, numbers) + tiles[there], log):
                return False
    return True


def lead_back(table):
    """Whether the entries lead back from where they lead to, by the same letters."""
    return all([index_along(table, at, letter + letter) == at for at in range(len(table)) for letter in LETTERS])


def close_corners(orders, table):
    """Whether going around each corner leads back."""
    words = [(one + other) * order for order, (one, other) in zip(orders, CORNERS)]
    return all([index_along(table, at, word) == at for at in range(len(table)) for word in words])


def reach_tiles(tiles, table):
    """Whether the way to each tile leads to its index."""
    start = index_along(table, 0, tiles[0][::-1])
    return all([index_along(table, start, tile) == at for at, tile in enumerate(tiles)])


def keep_first(tiles, pairs, table):
    """Whether the motion of each pair takes the first tile to a tile with its index."""
    start = index_along(table, 0, tiles[0][::-1])
    return all([index_along(table, start, pair_word(pair) + tiles[0]) == 0 for pair in pairs])


def is_accepted(polygon, pairs, table):
    """Whether a table is accepted, for a polygon of right orders and words."""
    orders, tiles = polygon
    if len(tiles) == 0 or not are_pairs(tiles, pairs) or not has_table_form(tiles, pairs, table):
        return False
    if not are_logs_right(polygon, pairs, table):
        return False
    if not lead_back(table) or not close_corners(orders, table):
        return False
    return reach_tiles(tiles, table) and keep_first(tiles, pairs, table)


def has_certificate_form(tiles, pairs, certificate):
    """Whether a value has the form of an overlap certificate; its log and lists are not looked at."""
    if not is_sequence(certificate, 6) or not is_row(pairs, certificate[0], MOST_IN_OVERLAP):
        return False
    return is_index(tiles, certificate[1]) and is_index(tiles, certificate[2])


def are_apart(one, other):
    """Whether two lists have no word in common."""
    inside = {word: True for word in one}
    return not any([word in inside for word in other])


def shows_overlap(polygon, pairs, certificate):
    """Whether an overlap certificate is accepted, for a polygon of right orders and words."""
    orders, tiles = polygon
    if not are_pairs(tiles, pairs) or not has_certificate_form(tiles, pairs, certificate):
        return False
    row, one, other, log, first, second = certificate
    if not leads(orders, row_word(pairs, row) + tiles[one], tiles[other], log):
        return False
    if not is_full_list(orders, first) or not is_full_list(orders, second):
        return False
    return tiles[one] in first and tiles[other] in second and are_apart(first, second)


def is_log(orders, start, end, log):
    """Whether a log leads from the first word to the second one."""
    check(orders, [start, end], MOST_LONG)
    return leads(orders, start, end, log)


def is_full(orders, words):
    """Whether a list of words is a full list."""
    check(orders, words, MOST_LONG)
    return is_full_list(orders, words)


def is_table(polygon, pairs, table):
    """Whether a table is accepted."""
    check_tiles(polygon)
    return is_accepted(polygon, pairs, table)


def is_overlap(polygon, pairs, certificate):
    """Whether an overlap certificate is accepted."""
    check_tiles(polygon)
    return shows_overlap(polygon, pairs, certificate)


def laid(polygon, pairs, table, word):
    """A row and the index of a place, as a table tells them for the tile of a word, or None."""
    orders, tiles = polygon
    check(orders, list(tiles) + [word], MOST_GIVEN)
    if not is_accepted(polygon, pairs, table):
        return None
    at = 0
    row = []
    for letter in tiles[0][::-1] + word:
        at, numbers, _ = table[at][LETTERS.index(letter)]
        row.extend(list(numbers))
    return tuple(row), at


def shown(polygon, pairs, answer):
    """What an answer shows: "fits", "overlaps" or "none"."""
    check_tiles(polygon)
    if not is_sequence(answer, 2):
        return "none"
    claim, proof = answer
    if claim == "fits" and is_accepted(polygon, pairs, proof):
        return "fits"
    if claim == "overlaps" and shows_overlap(polygon, pairs, proof):
        return "overlaps"
    return "none"
