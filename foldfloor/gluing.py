"""Polygons with pairings, and the walk over their tiles."""

from foldfloor.depths import Floor
from foldfloor.longwords import LongWords
from foldfloor.polygons import tiles_beyond


class Gluing:
    """A polygon and a pairing of it; both are known to be right."""

    def __init__(self, polygon, pairs):
        self.orders, self.tiles = polygon
        self.floor = Floor(self.orders)
        self.words = LongWords(self.floor)
        self.inner = tiles_beyond(self.floor, self.tiles)
        self.glue(pairs)

    def glue(self, pairs):
        """Takes a pairing of the polygon instead of the one before."""
        self.pairs = pairs
        # For each side: the tile to which the walk leads over it, and the integer that it notes, or 0.
        self.leads = {side: (there, 0) for side, there in self.inner.items()}
        # The numbers of the mirrors, by their sides.
        self.mirrors = {}
        for k, (one, other) in enumerate(pairs):
            if one == other:
                self.mirrors[one] = k
                self.leads[one] = (one[0], k + 1)
            else:
                self.leads[one] = (other[0], -(k + 1))
                self.leads[other] = (one[0], k + 1)

    def beyond(self, tile, letter):
        """The tile to which the walk leads over a side."""
        return self.leads[(tile, letter)][0]

    def walk(self, tile, word):
        """The tile at the end of the walk along a word, and the noted row."""
        row = []
        for letter in word:
            tile, number = self.leads[(tile, letter)]
            if number != 0:
                row.append(number)
        return tile, tuple(row)

    def pair_word(self, k):
        """The word of the motion of a pair, not yet normal."""
        (one, letter), (other, _) = self.pairs[k]
        return other + letter + one[::-1]

    def row_motion(self, row):
        """The normal word of the motion of a row."""
        motion = ""
        for number in row:
            word = self.pair_word(abs(number) - 1)
            motion = self.words.normal_behind(motion, word if number > 0 else word[::-1])
        return motion

    def tiles_of_copy(self, row):
        """For each tile the tile to which the motion of a row takes it."""
        motion = self.row_motion(row)
        return {tile: self.words.normal_behind(motion, tile) for tile in self.tiles}
