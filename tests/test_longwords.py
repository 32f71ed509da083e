"""Normal words that get longer letter by letter, as the motions of long rows need them ([101])."""

import random
import unittest
from itertools import product

from foldfloor.copies import copy_of
from foldfloor.depths import Floor
from foldfloor.longwords import CROSSED, MOST_ROOTS, SETTLED, LongWords
from foldfloor.pairing import mirrors, row_motion
from tests.gluings import fitting_gluings, reference, row_word, some_row
from tests.reference import ALL, LETTERS, all_words, rank

MORE = [(12, 12, 2), (2, 12, 0), (2, 2, 12), (2, 0, 2), (4, 4, 4), (2, 3, 7), (2, 4, 5), (11, 2, 0)]


class Letters(unittest.TestCase):
    def test_short_words(self):
        for orders in ALL:
            slow = reference(orders)
            words = LongWords(Floor(orders))
            for word in all_words(4):
                start = slow.normal(word)
                for letter in LETTERS:
                    self.assertEqual(words.with_letter(start, letter), slow.normal(word + letter))

    def test_long_words(self):
        source = random.Random(5)
        for orders in ALL + MORE:
            floor = Floor(orders)
            words = LongWords(floor)
            for many in (30, 120):
                word = ""
                for _ in range(many):
                    letters = source.sample(LETTERS, 3)
                    longer = [words.with_letter(word, letter) for letter in letters]
                    self.assertEqual(longer, [floor.normal(word + letter) for letter in letters])
                    word = max(longer, key=len)

    def test_along_a_wall(self):
        # The letter 1 goes with both others: it is looked for from the end to the beginning.
        words = LongWords(Floor((2, 2, 0)))
        path = "02" * 3000
        self.assertEqual(words.with_letter(path, "1"), "01" + path[1:])
        self.assertEqual(words.with_letter("01" + path[1:], "1"), path)
        self.assertEqual(words.with_letter(path, "0"), path + "0")
        self.assertEqual(words.with_letter(path, "2"), path[:-1])


class Words(unittest.TestCase):
    def test_against_whole_words(self):
        source = random.Random(6)
        for orders in ALL + MORE:
            floor = Floor(orders)
            words = LongWords(floor)
            start = floor.normal("".join(source.choice(LETTERS) for _ in range(500)) + "0120" * 40)
            for most in (3, 80, 390, 450):
                more = "".join(source.choice(LETTERS) for _ in range(most))
                self.assertEqual(words.normal_behind(start, more), floor.normal(start + more))
            self.assertEqual(words.normal_behind(start, start[::-1]), "")
            self.assertEqual(words.normal_behind("", start + "00" * 200), start)

    def test_long_rows(self):
        # Without corners, equal neighbours alone cut each other.
        one, other = "012" * 10, "120" * 10
        tiles = sorted({word[:many] for word in (one, other) for many in range(30)}, key=rank)
        polygon = ((0, 0, 0), tuple(tiles))
        pairs = list(mirrors(polygon))
        pairs = [pair for pair in pairs if pair[0][0] not in (one[:29], other[:29])]
        pairs = [((one[:29], "0"), (other[:29], "0")), ((one[:29], "2"), (one[:29], "2")),
                 ((other[:29], "1"), (other[:29], "1"))] + pairs
        for row in ((1,) * 200, (1, 2, 3, -1) * 50, (1, 3, 2) * 66, (1, -1) * 100, (2, 1, 9, -20) * 50):
            told = without_neighbours(row_word(pairs, row))
            self.assertEqual(row_motion(polygon, tuple(pairs), row), told)
            self.assertEqual(copy_of(polygon, tuple(pairs), row),
                             [without_neighbours(told + tile) for tile in tiles])

    def test_rows_of_other_floors(self):
        source = random.Random(8)
        for polygon, pairs in fitting_gluings()[::3]:
            floor = Floor(polygon[0])
            row = some_row(pairs, 150, source)
            told = floor.normal(row_word(pairs, row))
            self.assertEqual(row_motion(polygon, pairs, row), told)
            self.assertEqual(copy_of(polygon, pairs, row), [floor.normal(told + tile) for tile in polygon[1]])


def without_neighbours(word):
    """A word after all cuts of two equal neighbours."""
    left = []
    for letter in word:
        if left and left[-1] == letter:
            left.pop()
        else:
            left.append(letter)
    return "".join(left)


class Roots(unittest.TestCase):
    def test_numbers(self):
        for orders in product((0, 2, 3, 4, 7, 11, 12), repeat=3):
            words = LongWords(Floor(orders))
            met = [0, 1, 2]
            for number in met:
                for letter in LETTERS:
                    found = words.step(number, letter)
                    if found not in met and found not in (CROSSED, SETTLED):
                        met.append(found)
            self.assertEqual(sorted(met), list(range(len(words.roots))))
            self.assertLessEqual(len(met), MOST_ROOTS)
            for number, letter in enumerate(LETTERS):
                self.assertEqual(words.step(number, letter), CROSSED)

    def test_where_places_are_settled(self):
        # Walls that never meet: at once for the order 0, behind a third letter for the order 12.
        words = LongWords(Floor((0, 12, 12)))
        self.assertEqual([words.step(0, "1"), words.step(1, "0")], [SETTLED, SETTLED])
        self.assertGreaterEqual(words.step(0, "2"), 3)
        self.assertEqual(words.step(words.step(0, "2"), "1"), SETTLED)


if __name__ == "__main__":
    unittest.main()
