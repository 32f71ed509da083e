"""How deep tiles lie behind the three mirrors of the first tile.

The depths of a tile are three numbers, one for each letter: (1, 1, 1) for the first tile. A letter i
in front of a word turns the depths (x0, x1, x2) of its tile into -xi for i and xj + 2 cos(pi / m) xi
for each other letter j, m being the order of i and j (2 xi for the order 0). These are the sums of the
coefficients of the roots that the tile's motion has made of the three mirrors. Such a sum is at least
1, or at most -1, and it is negative exactly if a shortest word of the tile begins with the letter.

So the signs decide everything, and numbers that are less than 1/2 wrong tell them. All numbers are
integers here, multiplied by a power of 2. One mirror multiplies what is wrong by at most 3 and adds
a little, which two more bits for each mirror outweigh.
"""

from foldfloor.orders import LETTERS

# Bits for the errors of rounding, which do not grow with the number of mirrors.
GUARD = 32

# The letters of a word are counted in steps of this size, so that few scales serve all words.
SIZE = 128


def sine_ratio(order, double, bits):
    """sin(order a) / sin(a) and its slope, at the number that stands for 2 cos(a)."""
    before, value = 0, 1 << bits
    slope_before, slope = 0, 0
    for _ in range(order - 1):
        slope_before, slope = slope, value + (double * slope >> bits) - slope_before
        before, value = value, (double * value >> bits) - before
    return value, slope


def bend_of(order, bits):
    """2 cos(pi / order), and 2 for the order 0, times 2 to the power of bits."""
    bend = 2 << bits
    if order == 0:
        return bend
    # It is the greatest zero of the ratio, so Newton's steps from above never pass it.
    while True:
        value, slope = sine_ratio(order, bend, bits)
        step = (value << bits) // slope
        if step <= 0:
            return bend
        bend = bend - step


def scale_for(orders, steps):
    """What numbers need to stay right for so many mirrors: their bits, and the three bends."""
    bits = 2 * steps + GUARD
    return bits, tuple([bend_of(order, bits) for order in orders])


def first_depths(scale):
    """The depths of the first tile."""
    one = 1 << scale[0]
    return one, one, one


def depths_behind(scale, depths, letter):
    """The depths of the tile of a word with a letter more in front."""
    bits, (b01, b12, b02) = scale
    zero, one, two = depths
    if letter == "0":
        return -zero, one + (b01 * zero >> bits), two + (b02 * zero >> bits)
    if letter == "1":
        return zero + (b01 * one >> bits), -one, two + (b12 * one >> bits)
    return zero + (b02 * two >> bits), one + (b12 * two >> bits), -two


def depths_of(scale, word):
    """The depths of the tile of a word."""
    depths = first_depths(scale)
    for letter in word[::-1]:
        depths = depths_behind(scale, depths, letter)
    return depths


def far_letters(depths):
    """The letters with which shortest words of the tile begin."""
    return "".join([letter for letter, depth in zip(LETTERS, depths) if depth < 0])


def first_far(depths):
    """The least letter with which a shortest word of the tile begins, or the empty string."""
    zero, one, two = depths
    if zero < 0:
        return "0"
    if one < 0:
        return "1"
    return "2" if two < 0 else ""


def first_root(scale, letter):
    """The coefficients of the root that stands for a mirror of the first tile."""
    one = 1 << scale[0]
    return tuple([one if letter == other else 0 for other in LETTERS])


def root_behind(scale, root, letter):
    """The root that the mirror of a letter makes of a root."""
    bits, (b01, b12, b02) = scale
    zero, one, two = root
    if letter == "0":
        return (b01 * one + b02 * two >> bits) - zero, one, two
    if letter == "1":
        return zero, (b01 * zero + b12 * two >> bits) - one, two
    return zero, one, (b02 * zero + b12 * one >> bits) - two


def place_crossing(scale, word, letter):
    """The last place of a word whose letter crosses the wall of a side at its end, or -1."""
    root = first_root(scale, letter)
    for at in range(len(word) - 1, -1, -1):
        root = root_behind(scale, root, word[at])
        if sum(root) < 0:
            return at
    return -1


class Floor:
    """The tiles of a floor, for words of any length; its orders and words are known to be right."""

    def __init__(self, orders):
        self.orders = orders
        self.scales = {}

    def scale(self, steps):
        """A scale that is exact enough for so many mirrors."""
        size = steps // SIZE + 1
        if size not in self.scales:
            self.scales[size] = scale_for(self.orders, size * SIZE)
        return self.scales[size]

    def normal(self, word):
        """The normal word of the tile of a word."""
        # Each letter is used twice: the depths are built up, and taken down again.
        scale = self.scale(2 * len(word))
        depths = depths_of(scale, word)
        letters = []
        letter = first_far(depths)
        while letter != "":
            letters.append(letter)
            depths = depths_behind(scale, depths, letter)
            letter = first_far(depths)
        return "".join(letters)

    def ends(self, word):
        """The string of the ends of the tile of a word."""
        # The ends are the letters with which the shortest words of the inverse begin.
        return far_letters(depths_of(self.scale(len(word)), word[::-1]))

    def left_out(self, word, letter):
        """The place that can be left out of a shortest word to go over an end of its tile."""
        return place_crossing(self.scale(len(word)), word, letter)

    def below(self, tile, letter):
        """The normal word beyond an end of the tile of a normal word."""
        # A normal word without the letter of [6] is normal: a lesser word of that tile would give
        # a lesser word of this one.
        at = self.left_out(tile, letter)
        return tile[:at] + tile[at + 1:]
