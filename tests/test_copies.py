"""Promises [120] to [124]: copies and places of tiles, rows after cutting, and words of the group."""

import random
import unittest

from foldfloor import copies
from foldfloor.errors import NotRow, NotWord
from foldfloor.pairing import mirrors, row_motion
from foldfloor.rings import ball
from tests.gluings import (fitting_gluings, pair_word, reference, row_word, slow_cut, slow_walk,
                           some_row, wrong_gluings)
from tests.reference import all_words
from tests.test_words import some_words

TWO = ((3, 4, 2), ("", "0"))

PAIRS = ((("", "1"), ("0", "1")), (("", "2"), ("0", "2")))

WORD_CALLS = (copies.part_of, copies.place_of, copies.in_group)

ROW_CALLS = (copies.cut_row, copies.copy_of)

WHOLE = ((3, 3, 2), tuple(ball((3, 3, 2), 6)))


def slow_part(polygon, pairs, tile):
    """The row after cutting and the place, by the walk of [121]."""
    first = polygon[1][0]
    way = reference(polygon[0]).normal(first[::-1] + tile)
    place, row = slow_walk(polygon, pairs, first, way)
    return slow_cut(pairs, row), place


def slow_group(polygon, pairs, most):
    """The motions of the group of at most so many letters, with some longer ones.

    A tile in front of which a motion takes the first tile of the polygon is reached through copies
    whose motions are not much longer.
    """
    slow = reference(polygon[0])
    limit = most + 2 * max(len(tile) for tile in polygon[1]) + 1
    words = [pair_word(pair)[::step] for pair in pairs for step in (1, -1)]
    found = [""]
    seen = {""}
    for motion in found:
        for word in words:
            new = slow.normal(motion + word)
            if new not in seen and len(new) <= limit:
                seen.add(new)
                found.append(new)
    return seen


class Parts(unittest.TestCase):
    def test_against_search(self):
        for polygon, pairs in fitting_gluings():
            slow = reference(polygon[0])
            for tile in some_words(31, 4, 0, 10) + ["", "0"]:
                row, place = copies.part_of(polygon, pairs, tile)
                self.assertEqual((row, place), slow_part(polygon, pairs, tile))
                self.assertIn(place, polygon[1])
                self.assertEqual(slow.normal(row_word(pairs, row) + place), slow.normal(tile))
                self.assertEqual(copies.place_of(polygon, pairs, tile), place)
                self.assertEqual(copies.cut_row(polygon, pairs, row), row)

    def test_tiles_of_the_polygon(self):
        for polygon, pairs in fitting_gluings():
            for tile in polygon[1]:
                row, place = copies.part_of(polygon, pairs, tile)
                self.assertEqual((row_motion(polygon, pairs, row), place), ("", tile))

    def test_each_tile_in_one_copy(self):
        for polygon, pairs in fitting_gluings()[::9]:
            slow = reference(polygon[0])
            met = {}
            for motion in slow_group(polygon, pairs, 3 + len(polygon[1][-1])):
                for place in polygon[1]:
                    tile = slow.normal(motion + place)
                    self.assertNotIn(tile, met)
                    met[tile] = motion, place
            for tile in ball(polygon[0], 3):
                row, place = copies.part_of(polygon, pairs, tile)
                self.assertEqual((row_motion(polygon, pairs, row), place), met[tile])

    def test_words_of_one_tile(self):
        for polygon, pairs in fitting_gluings()[::5]:
            slow = reference(polygon[0])
            for word in some_words(37, 4, 4, 14):
                self.assertEqual(copies.part_of(polygon, pairs, word),
                                 copies.part_of(polygon, pairs, slow.normal(word)))

    def test_small_ones(self):
        self.assertEqual(copies.part_of(TWO, PAIRS, "1"), ((-1,), "0"))
        self.assertEqual(copies.part_of(TWO, PAIRS, "01"), ((1,), ""))
        self.assertEqual(copies.part_of(TWO, PAIRS, "2"), ((-2,), "0"))
        self.assertEqual(copies.part_of(TWO, PAIRS, "12"), ((-1, 2), ""))
        polygon = ((0, 0, 0), ("",))
        self.assertEqual(copies.part_of(polygon, mirrors(polygon), "0120"), ((1, 2, 3, 1), ""))
        self.assertEqual(copies.part_of(polygon, mirrors(polygon), "0112"), ((1, 3), ""))
        self.assertEqual(copies.part_of(polygon, mirrors(polygon), "012" * 20), ((1, 2, 3) * 20, ""))
        # The first tile of this polygon is not the first one of the floor.
        polygon = ((0, 0, 0), ("0",))
        self.assertEqual(copies.part_of(polygon, mirrors(polygon), ""), ((1,), "0"))
        self.assertEqual(copies.part_of(polygon, mirrors(polygon), "01"), ((2,), "0"))
        self.assertEqual(copies.part_of(polygon, mirrors(polygon), "1"), ((1, 2), "0"))

    def test_whole_floor(self):
        for tile in WHOLE[1]:
            self.assertEqual(copies.part_of(WHOLE, (), tile), ((), tile))
            self.assertIs(copies.in_group(WHOLE, (), tile), tile == "")
        self.assertEqual(copies.place_of(WHOLE, (), "00"), "")


class Rows(unittest.TestCase):
    def test_cutting(self):
        source = random.Random(6)
        for polygon, pairs in fitting_gluings():
            for most in (3, 8):
                row = some_row(pairs, most, source)
                found = copies.cut_row(polygon, pairs, row)
                self.assertEqual(found, slow_cut(pairs, row))
                self.assertEqual(row_motion(polygon, pairs, found), row_motion(polygon, pairs, row))
                opposite = tuple(-number for number in row[::-1])
                self.assertEqual(copies.cut_row(polygon, pairs, row + opposite), ())

    def test_neighbours_that_cut_each_other(self):
        polygon = ((3, 4, 2), ("", "0"))
        pairs = ((("0", "1"), ("", "1")), (("", "2"), ("", "2")), (("0", "2"), ("0", "2")))
        for row, told in (((1, -1), ()), ((-1, 1), ()), ((1, 1), (1, 1)), ((2, 2), ()), ((2, -2), ()),
                          ((-2, -2), ()), ((-2,), (2,)), ((-2, 1, -3), (2, 1, 3)), ((-1,), (-1,)),
                          ((1, 2, 2, -1), ()), ((1, 2, -3, 3, 2, -1, 1), (1,)), ((2, 2, 2), (2,)),
                          ((2, 3, 2, 3), (2, 3, 2, 3)), ((), ()), ((1, 2, 1, -1, -2, 3), (1, 3)),
                          ((-1, -1, 1, 1, 1), (1,)), ((-2, 3, -3, -2, 1, 1), (1, 1))):
            self.assertEqual(copies.cut_row(polygon, pairs, row), told)

    def test_copies(self):
        source = random.Random(8)
        for polygon, pairs in fitting_gluings():
            slow = reference(polygon[0])
            row = some_row(pairs, 4, source)
            told = [slow.normal(row_word(pairs, row) + tile) for tile in polygon[1]]
            self.assertEqual(copies.copy_of(polygon, pairs, row), told)
            self.assertEqual(copies.copy_of(polygon, pairs, ()), list(polygon[1]))
            for tile, place in zip(told, polygon[1]):
                if len(tile) <= 60:
                    self.assertEqual(copies.place_of(polygon, pairs, tile), place)

    def test_tiles_of_a_copy_in_the_polygon_order(self):
        self.assertEqual(copies.copy_of(TWO, PAIRS, (1,)), ["01", "010"])
        self.assertEqual(copies.copy_of(TWO, PAIRS, (-1,)), ["10", "1"])

    def test_lists_are_not_shared(self):
        copies.copy_of(TWO, PAIRS, (1,)).clear()
        self.assertEqual(len(copies.copy_of(TWO, PAIRS, (1,))), 2)


class Groups(unittest.TestCase):
    def test_against_search(self):
        few = [gluing for gluing in fitting_gluings() if len(gluing[0][1][-1]) <= 2]
        self.assertGreater(len(few), 40)
        for polygon, pairs in few[::3]:
            group = slow_group(polygon, pairs, 3)
            for word in ball(polygon[0], 3):
                self.assertIs(copies.in_group(polygon, pairs, word), word in group, (polygon, pairs, word))

    def test_by_places(self):
        for polygon, pairs in fitting_gluings():
            slow = reference(polygon[0])
            for word in some_words(41, 4, 0, 9):
                place = slow_part(polygon, pairs, word + polygon[1][0])[1]
                self.assertIs(copies.in_group(polygon, pairs, word), place == polygon[1][0])
                self.assertIs(copies.in_group(polygon, pairs, slow.normal(word)), place == polygon[1][0])

    def test_motions_of_rows(self):
        source = random.Random(9)
        for polygon, pairs in fitting_gluings():
            for _ in range(3):
                motion = row_motion(polygon, pairs, some_row(pairs, 4, source))
                if len(motion) <= 60:
                    self.assertIs(copies.in_group(polygon, pairs, motion), True)
                    self.assertIs(copies.in_group(polygon, pairs, motion[::-1]), True)

    def test_classes(self):
        # Two words are of one class exactly if their places are the same.
        for polygon, pairs in fitting_gluings()[::8]:
            listed = all_words(2) + some_words(43, 5, 3, 7)
            for one in listed[::2]:
                for other in listed[::3]:
                    same = copies.place_of(polygon, pairs, one) == copies.place_of(polygon, pairs, other)
                    self.assertIs(copies.in_group(polygon, pairs, one + other[::-1]), same)

    def test_all_places(self):
        for polygon, pairs in fitting_gluings():
            if len(polygon[1]) <= 8:
                places = {copies.place_of(polygon, pairs, tile) for tile in all_words(3)}
                if max(map(len, polygon[1])) <= 3:
                    self.assertEqual(places, set(polygon[1]))


class Errors(unittest.TestCase):
    def test_wrong_words(self):
        for call in WORD_CALLS:
            self.assertIsNotNone(call(TWO, PAIRS, "0" * 60))
            for wrong in ("3", "0" * 61, "a"):
                with self.assertRaises(NotWord):
                    call(TWO, PAIRS, wrong)

    def test_wrong_rows(self):
        for call in ROW_CALLS:
            self.assertIsNotNone(call(TWO, PAIRS, (1, -1) * 100))
            for wrong in ((0,), (3,), (-3,), (1, 0), (1, -1) * 100 + (1,), (1, 2, 99)):
                with self.assertRaises(NotRow):
                    call(TWO, PAIRS, wrong)
            with self.assertRaises(NotRow):
                call(WHOLE, (), (1,))

    def test_errors_in_their_order(self):
        for polygon, pairs, error in wrong_gluings():
            for call in WORD_CALLS:
                self.assertRaises(error, call, polygon, pairs, "")
                self.assertRaises(error, call, polygon, pairs, "3")
            for call in ROW_CALLS:
                self.assertRaises(error, call, polygon, pairs, ())
                self.assertRaises(error, call, polygon, pairs, (0,))


if __name__ == "__main__":
    unittest.main()
