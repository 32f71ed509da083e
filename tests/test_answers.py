"""Promises [261], [265] and [266]: full lists, and answers that show whether a pairing fits."""

import unittest
from itertools import product
from unittest.mock import patch

from foldfloor import answers
from foldfloor.certificates import is_full, is_overlap, is_table, shown
from foldfloor.errors import NotOrders, NotPairing, NotPolygon, NotWord, TooLarge
from foldfloor.orders import kind_of
from foldfloor.pairing import mirrors
from foldfloor.polygons import polygon_of
from foldfloor.rounds import fits
from foldfloor.search import all_pairings
from foldfloor.steps import is_log
from foldfloor.words import normal
from tests.gluings import fitting_gluings, large_gluings, row_word, slow_overlap, some_gluings
from tests.reference import ALL, LETTERS, all_words, turned
from tests.test_border import NOT_POLYGONS
from tests.test_polygons import WRONG_ORDERS
from tests.test_words import some_words


def deep_polygon(orders, word):
    """The polygon of the tiles of a word and of that beyond its side 0."""
    return polygon_of(orders, [word, word + "0"])


class FullLists(unittest.TestCase):
    def test_against_turns(self):
        for orders in ALL:
            for word in all_words(4) + some_words(141, 6, 5, 12):
                tile = normal(orders, word)
                told = sorted(turned(orders, tile))
                self.assertEqual(answers.full_list(orders, word), told)
                self.assertIs(is_full(orders, told), True)

    def test_small_ones(self):
        self.assertEqual(answers.full_list((3, 3, 2), ""), [""])
        self.assertEqual(answers.full_list((3, 3, 2), "00"), [""])
        self.assertEqual(answers.full_list((3, 3, 2), "101"), ["010", "101"])
        self.assertEqual(answers.full_list((3, 3, 2), "20"), ["02", "20"])
        self.assertEqual(answers.full_list((0, 0, 0), "012" * 20), ["012" * 20])

    def test_five_hundred_words(self):
        # Each 01 can be turned, so there are 2^8 and 2^9 words.
        self.assertEqual(len(answers.full_list((2, 0, 0), "012" * 8)), 256)
        self.assertRaises(TooLarge, answers.full_list, (2, 0, 0), "012" * 9)
        word = "0121201202012120120121201201201"
        self.assertEqual(len(answers.full_list((2, 5, 0), word)), 500)
        self.assertRaises(TooLarge, answers.full_list, (3, 3, 3), "0102" * 15)
        self.assertRaises(TooLarge, answers.full_list, (2, 4, 4), "012" * 20)
        self.assertEqual(answers.full_list((3, 3, 3), "012" * 20), ["012" * 20])

    def test_just_within_the_limit(self):
        for most in (256, 300):
            with patch.object(answers, "MOST_LISTED", most):
                self.assertEqual(len(answers.full_list((2, 0, 0), "012" * 8)), 256)
        with patch.object(answers, "MOST_LISTED", 255):
            self.assertRaises(TooLarge, answers.full_list, (2, 0, 0), "012" * 8)

    def test_one_letter_that_is_exchanged_with_all(self):
        row = "02" * 29
        told = sorted(row[:at] + "1" + row[at:] for at in range(59))
        self.assertEqual(answers.full_list((2, 2, 0), row + "1"), told)

    def test_lists_are_not_shared(self):
        answers.full_list((3, 3, 2), "101").clear()
        self.assertEqual(answers.full_list((3, 3, 2), "101"), ["010", "101"])

    def test_errors_in_their_order(self):
        for word in ("3", "0" * 61, "0" * 59 + "1a"):
            for orders in WRONG_ORDERS:
                self.assertRaises(NotOrders, answers.full_list, orders, word)
            for orders in ((3, 3, 3), (0, 0, 0)):
                self.assertRaises(NotWord, answers.full_list, orders, word)


class Tables(unittest.TestCase):
    def check(self, polygon, pairs, found):
        """Each entry by [263], with the words of its log."""
        orders, tiles = polygon
        kind, table = found
        self.assertEqual(kind, "fits")
        self.assertEqual(len(table), len(tiles))
        for tile, row in zip(tiles, table):
            for letter, (there, numbers, log) in zip(LETTERS, row):
                self.assertLessEqual(len(numbers), 3)
                end = row_word(pairs, numbers) + tiles[there]
                self.assertTrue(is_log(orders, tile + letter, end, log))
        self.assertIs(is_table(polygon, pairs, table), True)
        self.assertEqual(shown(polygon, pairs, found), "fits")

    def test_pairings_that_fit(self):
        kinds = set()
        for polygon, pairs in fitting_gluings() + large_gluings():
            self.check(polygon, pairs, answers.answer_of(polygon, pairs))
            kinds.add(kind_of(polygon[0]))
        self.assertEqual(kinds, {"round", "flat", "wide"})

    def test_deep_polygons(self):
        for orders in ((0, 0, 0), (3, 3, 3), (2, 4, 4), (3, 7, 2), (12, 2, 3), (12, 12, 12)):
            polygon = polygon_of(orders, ["012" * 20])
            self.check(polygon, mirrors(polygon), answers.answer_of(polygon, mirrors(polygon)))
        polygon = deep_polygon((0, 0, 0), "0" + "12" * 29)
        for pairs in all_pairings(polygon):
            self.check(polygon, pairs, answers.answer_of(polygon, pairs))

    def test_ten_tiles_of_twelve_letters(self):
        for orders in ((12, 12, 12), (2, 4, 4), (0, 4, 6), (0, 0, 0), (12, 2, 4)):
            words = ["012012012012", "01201201201", "01201201202", "0120120120", "012012012"]
            polygon = polygon_of(orders, words)
            for pairs in list(all_pairings(polygon))[:40]:
                if fits(polygon, pairs):
                    self.check(polygon, pairs, answers.answer_of(polygon, pairs))

    def test_too_many_steps(self):
        polygon, pairs = fitting_gluings()[30]
        with patch("foldfloor.steps.MOST_STEPS", 0):
            self.assertRaises(TooLarge, answers.answer_of, polygon, pairs)


class Overlaps(unittest.TestCase):
    def check(self, polygon, pairs, found):
        """The certificate by [265]."""
        orders, tiles = polygon
        kind, (row, one, other, log, first, second) = found
        self.assertEqual(kind, "overlaps")
        self.assertLessEqual(len(row), 60)
        start = row_word(pairs, row) + tiles[one]
        self.assertLessEqual(len(start), 200)
        self.assertTrue(is_log(orders, start, tiles[other], log))
        self.assertEqual(first, answers.full_list(orders, tiles[one]))
        self.assertEqual(second, answers.full_list(orders, tiles[other]))
        self.assertNotEqual(one, other)
        self.assertIs(is_overlap(polygon, pairs, found[1]), True)
        self.assertEqual(shown(polygon, pairs, found), "overlaps")

    def test_pairings_that_do_not_fit(self):
        kinds = set()
        for seed in range(3):
            for polygon, pairs in some_gluings(seed):
                if slow_overlap(polygon, pairs) is not None:
                    self.check(polygon, pairs, answers.answer_of(polygon, pairs))
                    kinds.add(kind_of(polygon[0]))
        self.assertEqual(kinds, {"round", "flat", "wide"})

    def test_small_polygons(self):
        # No polygon of at most two tiles of at most one letter is too large, if no order is greater than 4.
        told = set()
        for orders in product((0, 2, 3, 4), repeat=3):
            for tiles in (("",), ("0",), ("1",), ("2",), ("", "0"), ("", "1"), ("", "2")):
                for pairs in all_pairings((orders, tiles)):
                    found = answers.answer_of((orders, tiles), pairs)
                    self.assertEqual(found[0], "fits" if fits((orders, tiles), pairs) else "overlaps")
                    self.assertEqual(shown((orders, tiles), pairs, found), found[0])
                    told.add(found[0])
        self.assertEqual(told, {"fits", "overlaps"})

    def test_too_long_words(self):
        # Going around the corner crosses 11 mirrors, each with a word of more than 50 letters.
        polygon = deep_polygon((11, 0, 0), "12" * 13)
        self.assertRaises(TooLarge, answers.answer_of, polygon, mirrors(polygon))
        polygon = deep_polygon((11, 0, 0), "12")
        self.check(polygon, mirrors(polygon), answers.answer_of(polygon, mirrors(polygon)))

    def test_too_large_lists(self):
        # Three mirrors are crossed, so the words have at most 200 letters, but there are more than 2^9 of them.
        polygon = deep_polygon((3, 2, 0), "012" * 9)
        self.assertRaises(TooLarge, answers.answer_of, polygon, mirrors(polygon))
        with patch.object(answers, "MOST_LISTED", 3000):
            self.check(polygon, mirrors(polygon), answers.answer_of(polygon, mirrors(polygon)))
        polygon = deep_polygon((3, 2, 0), "012" * 5)
        self.check(polygon, mirrors(polygon), answers.answer_of(polygon, mirrors(polygon)))

    def test_one_list_that_is_too_large(self):
        polygon = deep_polygon((3, 4, 2), "2")
        sizes = [len(answers.full_list(polygon[0], tile)) for tile in polygon[1]]
        self.assertLess(sizes[0], sizes[1])
        for most, told in ((sizes[0] - 1, False), (sizes[0], False), (sizes[1] - 1, False), (sizes[1], True)):
            with patch.object(answers, "MOST_LISTED", most):
                if told:
                    self.check(polygon, mirrors(polygon), answers.answer_of(polygon, mirrors(polygon)))
                else:
                    self.assertRaises(TooLarge, answers.answer_of, polygon, mirrors(polygon))

    def test_just_within_the_limits(self):
        # The word and the log that are needed, and a letter or a step less.
        polygon = ((3, 4, 2), ("", "0"))
        found = answers.answer_of(polygon, mirrors(polygon))
        self.check(polygon, mirrors(polygon), found)
        row, one, _, log, _, _ = found[1]
        for limit, most in (("MOST_STEPS", len(log)),
                            ("MOST_LONG", len(row_word(mirrors(polygon), row) + polygon[1][one]))):
            with patch.object(answers, limit, most):
                self.assertEqual(answers.answer_of(polygon, mirrors(polygon))[0], "overlaps")
            with patch.object(answers, limit, 0):
                self.assertRaises(TooLarge, answers.answer_of, polygon, mirrors(polygon))
        with patch.object(answers, "MOST_LONG", most - 1):
            self.assertRaises(TooLarge, answers.answer_of, polygon, mirrors(polygon))


class Errors(unittest.TestCase):
    def test_errors_in_their_order(self):
        for polygon in NOT_POLYGONS:
            for pairs in ((), ((("", "0"), ("", "0")),)):
                self.assertRaises(NotPolygon, answers.answer_of, polygon, pairs)
        for polygon, pairs in some_gluings()[::5]:
            self.assertRaises(NotPairing, answers.answer_of, polygon, pairs[1:])
            self.assertRaises(NotPairing, answers.answer_of, polygon, pairs + pairs[:1])


if __name__ == "__main__":
    unittest.main()
