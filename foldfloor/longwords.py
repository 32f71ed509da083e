"""Long normal words, letter by letter.

A letter behind a normal word crosses out one of its letters, or it comes to stand somewhere in the normal
word of the tile beyond; the others stay as they are. The letter's root, taken through the word from the
end on, tells where: it turns negative at the letter that is crossed out, and wherever it is the root of a
mirror of the first tile, this mirror's letter may be inserted instead.

If a letter adds 2 or more to the root, then the root's wall lies beyond the wall of this letter and never
meets it. As the word is shortest, the letters before do not cross that wall, so neither this one: the
place is settled. Only finitely many roots come before, so each of them gets a number.
"""

from foldfloor.depths import first_root, root_behind
from foldfloor.orders import LETTERS

# No floor has more than 33 roots before a place is settled, so each of them is found by fewer steps.
MOST_ROOTS = 33

# What stands for a root that turned negative, and for one whose place is settled.
CROSSED = -1
SETTLED = -2

# Words up to this length are found as a whole.
SHORT = 400


class LongWords:
    """Normal words of any length on a floor."""

    def __init__(self, floor):
        self.floor = floor
        self.scale = floor.scale(MOST_ROOTS)
        self.roots = []
        # The numbers of the roots, those of the letters first, by what rounding errors do not reach.
        self.numbers = {}
        # For each number of a root and each letter: the number of the root behind the letter.
        self.steps = {}
        for letter in LETTERS:
            self.number_of(first_root(self.scale, letter))

    def number_of(self, root):
        """The number of a root."""
        shift = self.scale[0] // 2
        key = tuple([((part >> (shift - 1)) + 1) >> 1 for part in root])
        if key not in self.numbers:
            self.numbers[key] = len(self.roots)
            self.roots.append(root)
        return self.numbers[key]

    def step(self, number, letter):
        """What a letter makes of the root with a number: a number, CROSSED or SETTLED."""
        if (number, letter) not in self.steps:
            before = self.roots[number]
            behind = root_behind(self.scale, before, letter)
            # Less than 2 is less than 31/16 too, as no order is greater than 12.
            if sum(behind) < 0:
                found = CROSSED
            elif 16 * (sum(behind) - sum(before)) > (31 << self.scale[0]):
                found = SETTLED
            else:
                found = self.number_of(behind)
            self.steps[(number, letter)] = found
        return self.steps[(number, letter)]

    def with_letter(self, word, letter):
        """The normal word of a normal word with a letter behind it."""
        number = LETTERS.index(letter)
        place = len(word)
        for at in range(len(word) - 1, -1, -1):
            number = self.step(number, word[at])
            if number == CROSSED:
                return word[:at] + word[at + 1:]
            if number == SETTLED:
                break
            if number < len(LETTERS) and LETTERS[number] < word[at]:
                place, letter = at, LETTERS[number]
        return word[:place] + letter + word[place:]

    def normal_behind(self, word, more):
        """The normal word of a normal word with any word behind it."""
        if len(word) + len(more) <= SHORT:
            return self.floor.normal(word + more)
        for letter in more:
            word = self.with_letter(word, letter)
        return word
