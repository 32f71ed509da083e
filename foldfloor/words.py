"""Tiles of a floor, told by words."""

from foldfloor.depths import Floor
from foldfloor.errors import BadNumber, NoAnswer
from foldfloor.orders import check_letter, check_long_word, check_orders, check_word, check_words

MOST_REMEMBERED = 400

MOST_POWER = 30


def normal(orders, word):
    """The normal word of the tile of a word."""
    check_orders(orders)
    check_word(word)
    return Floor(orders).normal(word)


def length(orders, word):
    """The length of the tile of a word."""
    return len(normal(orders, word))


def is_shortest(orders, word):
    """Whether a word is a shortest one of its tile."""
    return length(orders, word) == len(word)


def same_tile(orders, one, other):
    """Whether two words lead to the same tile."""
    check_orders(orders)
    check_words([one, other])
    floor = Floor(orders)
    return floor.normal(one) == floor.normal(other)


def ends(orders, word):
    """The string of the ends of the tile of a word."""
    check_orders(orders)
    check_word(word)
    return Floor(orders).ends(word)


def left_out(orders, word, letter):
    """The place to leave out of a shortest word to come beyond an end of its tile."""
    check_orders(orders)
    check_word(word)
    check_letter(letter)
    floor = Floor(orders)
    if len(floor.normal(word)) != len(word):
        raise NoAnswer("the word is not shortest")
    if letter not in floor.ends(word):
        raise NoAnswer("the letter is not an end")
    return floor.left_out(word, letter)


def times(orders, one, other):
    """The product of two words."""
    check_orders(orders)
    check_words([one, other])
    return Floor(orders).normal(one + other)


def inverse(orders, word):
    """The inverse of a word."""
    check_orders(orders)
    check_word(word)
    return Floor(orders).normal(word[::-1])


def power(orders, word, exponent):
    """The product of as many copies of a word, or of its inverse for a negative exponent."""
    check_orders(orders)
    check_word(word)
    if not -MOST_POWER <= exponent <= MOST_POWER:
        raise BadNumber(f"an exponent is from -{MOST_POWER} to {MOST_POWER}")
    floor = Floor(orders)
    base = word if exponent >= 0 else word[::-1]
    return floor.normal(floor.normal(base) * abs(exponent))


class Tiles:
    """A floor that remembers tiles."""

    def __init__(self, orders):
        check_orders(orders)
        self.floor = Floor(orders)
        self.normals = {}

    def normal(self, word):
        """The normal word of the tile of a word of up to 400 letters."""
        check_long_word(word, MOST_REMEMBERED)
        return self.remembered(word)

    def beyond(self, tile, letter):
        """The normal word of the tile beyond a side of the tile of a word."""
        check_long_word(tile, MOST_REMEMBERED)
        check_letter(letter)
        return self.remembered(tile + letter)

    def ends(self, word):
        """The string of the ends of the tile of a word."""
        check_long_word(word, MOST_REMEMBERED)
        return self.floor.ends(word)

    def remembered(self, word):
        """The normal word of a tile, found only once for each word."""
        if word not in self.normals:
            self.normals[word] = self.floor.normal(word)
        return self.normals[word]
