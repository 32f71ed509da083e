"""Promises [100] to [102]: pairings, their motions, and the walk."""

import random
import unittest

from foldfloor import pairing
from foldfloor.errors import BadNumber, NotPairing, NotPolygon, NotRow, NotWord
from foldfloor.polygons import border_sides
from foldfloor.rings import ball
from tests.gluings import (border_of, every_pairing, fitting_gluings, mixed, pair_word, reference,
                           row_word, slow_walk, some_gluings, some_row)
from tests.reference import ALL, LETTERS
from tests.test_border import NOT_POLYGONS
from tests.test_polygons import some_polygons
from tests.test_words import some_words

WHOLE = ((3, 3, 2), tuple(ball((3, 3, 2), 6)))

TWO = ((3, 4, 2), ("", "0"))

PAIRS = ((("", "1"), ("0", "1")), (("", "2"), ("0", "2")))


def all_gluings():
    return some_gluings() + list(fitting_gluings())


class Conditions(unittest.TestCase):
    def check(self, polygon, pairs, told):
        self.assertIs(pairing.is_pairing(polygon, pairs), told, (polygon, pairs))
        if told:
            self.assertIsNone(pairing.check_pairing(polygon, pairs))
            return
        with self.assertRaises(NotPairing):
            pairing.check_pairing(polygon, pairs)
        for number in (0, -1, 99):
            with self.assertRaises(NotPairing):
                pairing.pair_motion(polygon, pairs, number)
            with self.assertRaises(NotPairing):
                pairing.row_motion(polygon, pairs, (number,))
        for tile, word in (("", ""), ("0120", "3"), (polygon[1][0], "3")):
            with self.assertRaises(NotPairing):
                pairing.walked(polygon, pairs, tile, word)

    def test_pairings(self):
        for polygon, pairs in all_gluings():
            self.check(polygon, pairs, True)
            self.check(polygon, pairs[::-1], True)

    def test_all_pairings_of_small_polygons(self):
        source = random.Random(1)
        for tiles in (("",), ("", "0"), ("1", "10"), ("", "0", "01")):
            for pairs in every_pairing(((3, 4, 0), tiles)):
                self.check(((3, 4, 0), tiles), mixed(pairs, source), True)

    def test_a_side_left_out(self):
        for polygon, pairs in all_gluings()[::8]:
            for k in range(len(pairs)):
                self.check(polygon, pairs[:k] + pairs[k + 1:], False)
                one, other = pairs[k]
                if one != other:
                    self.check(polygon, pairs[:k] + ((one, one),) + pairs[k + 1:], False)
                    self.check(polygon, pairs[:k] + ((other, other),) + pairs[k + 1:], False)
                    both = ((one, one), (other, other))
                    self.check(polygon, pairs[:k] + both + pairs[k + 1:], True)

    def test_a_side_doubled(self):
        for polygon, pairs in all_gluings()[1::12]:
            for k in range(len(pairs)):
                one, other = pairs[k]
                for more in ((one, one), (other, other), (one, other), (other, one)):
                    self.check(polygon, pairs + (more,), False)
                    self.check(polygon, (more,) + pairs, False)

    def test_two_letters_in_a_pair(self):
        for pairs in (((("", "1"), ("0", "2")), (("", "2"), ("0", "1"))),
                      ((("", "1"), ("", "2")), (("0", "1"), ("0", "2"))),
                      ((("", "1"), ("", "2")), (("0", "1"), ("0", "1")), (("0", "2"), ("0", "2")))):
            self.check(TWO, pairs, False)

    def test_sides_that_are_no_border_sides(self):
        inner = (("", "0"), ("0", "0"))
        for more in ((inner,), ((inner[0],) * 2,), ((inner[1],) * 2,), ((("1", "0"), ("1", "0")),),
                     ((("", "3"), ("", "3")),), ((("", ""), ("", "")),), ((("01", "2"), ("01", "2")),),
                     ((("", "12"), ("", "12")),)):
            self.check(TWO, PAIRS + more, False)
            self.check(TWO, more + PAIRS, False)
        self.check(TWO, PAIRS[:1] + ((("", "2"), ("01", "2")),), False)
        self.check(TWO, PAIRS[:1] + ((("0", "2"), ("", "0")),), False)

    def test_words_that_are_not_normal(self):
        for word in ("000", "011", "0" * 61, "1"):
            self.check(TWO, ((("", "1"), (word, "1")), (("", "2"), ("0", "2"))), False)
        self.check(((3, 4, 2), ("010",)), tuple(((("010", x),) * 2) for x in LETTERS), True)
        self.check(((3, 4, 2), ("010",)), tuple(((("101", x),) * 2) for x in LETTERS), False)

    def test_more_than_two_sides(self):
        side = ("", "1")
        for pair in ((side,), (side, side, side), (), (side, ("0", "1"), ("0", "1"))):
            self.check(TWO, PAIRS[1:] + (pair,), False)

    def test_no_border_sides(self):
        self.check(WHOLE, (), True)
        self.check(WHOLE, ((("", "0"), ("", "0")),), False)
        self.check(WHOLE, ((("", "0"), ("0", "0")),), False)
        self.check(TWO, (), False)
        self.assertEqual(pairing.mirrors(WHOLE), ())
        self.assertEqual(pairing.row_motion(WHOLE, (), ()), "")
        with self.assertRaises(NotRow):
            pairing.row_motion(WHOLE, (), (1,))
        with self.assertRaises(BadNumber):
            pairing.pair_motion(WHOLE, (), 0)
        self.assertEqual(pairing.walked(WHOLE, (), "0", "0121"), ("121", ()))

    def test_wrong_polygons(self):
        for wrong in NOT_POLYGONS:
            for pairs in ((), PAIRS, ((("", "0"), ("", "1")),)):
                for call in (pairing.is_pairing, pairing.check_pairing):
                    with self.assertRaises(NotPolygon):
                        call(wrong, pairs)
                with self.assertRaises(NotPolygon):
                    pairing.pair_motion(wrong, pairs, 9)
                with self.assertRaises(NotPolygon):
                    pairing.row_motion(wrong, pairs, (0,))
                with self.assertRaises(NotPolygon):
                    pairing.walked(wrong, pairs, "3", "3")
            with self.assertRaises(NotPolygon):
                pairing.mirrors(wrong)

    def test_mirrors(self):
        for polygon in some_polygons():
            found = pairing.mirrors(polygon)
            self.assertEqual(found, tuple((side, side) for side in border_sides(polygon)))
            self.assertIs(pairing.is_pairing(polygon, found), True)
        self.assertEqual(pairing.mirrors(TWO),
                         tuple(((tile, x),) * 2 for tile in ("", "0") for x in "12"))


class Motions(unittest.TestCase):
    def test_pairs(self):
        for polygon, pairs in all_gluings():
            slow = reference(polygon[0])
            for k, pair in enumerate(pairs):
                found = pairing.pair_motion(polygon, pairs, k)
                self.assertEqual(found, slow.normal(pair_word(pair)))
                (one, letter), (other, _) = pair
                # The tile of the first side goes beyond the second side.
                self.assertEqual(slow.normal(found + one), slow.normal(other + letter))
                self.assertEqual(pairing.row_motion(polygon, pairs, (k + 1,)), found)
                self.assertEqual(pairing.row_motion(polygon, pairs, (-k - 1,)), slow.normal(found[::-1]))
            for number in (-1, -2, len(pairs), len(pairs) + 1, 1000):
                with self.assertRaises(BadNumber):
                    pairing.pair_motion(polygon, pairs, number)

    def test_rows(self):
        source = random.Random(2)
        for polygon, pairs in all_gluings():
            slow = reference(polygon[0])
            for most in (2, 5):
                row = some_row(pairs, most, source)
                found = pairing.row_motion(polygon, pairs, row)
                self.assertEqual(found, slow.normal(row_word(pairs, row)))
                # The inverse motion has the word backwards.
                opposite = tuple(-number for number in row[::-1])
                self.assertEqual(pairing.row_motion(polygon, pairs, opposite), slow.normal(found[::-1]))
                self.assertEqual(pairing.row_motion(polygon, pairs, row + opposite), "")
            self.assertEqual(pairing.row_motion(polygon, pairs, ()), "")

    def test_order_of_a_row(self):
        polygon = ((0, 0, 0), ("",))
        pairs = pairing.mirrors(polygon)
        self.assertEqual(pairing.row_motion(polygon, pairs, (1, -2, 3, 1)), "0120")
        polygon = ((0, 0, 0), ("", "0"))
        self.assertEqual(pairing.row_motion(polygon, PAIRS, (1, -2)), "0120")
        self.assertEqual(pairing.row_motion(polygon, PAIRS, (2, 1)), "0201")
        self.assertEqual(pairing.row_motion(polygon, PAIRS, (-1, -1)), "1010")

    def test_rows_that_are_none(self):
        for polygon, pairs in some_gluings(3)[::4]:
            many = len(pairs)
            for row in ((0,), (many + 1,), (-many - 1,), (1, 0), (1, many + 1, 1), (1, -1, 10 ** 30)):
                with self.assertRaises(NotRow):
                    pairing.row_motion(polygon, pairs, row)

    def test_two_hundred_integers(self):
        polygon = ((3, 4, 2), ("",))
        pairs = pairing.mirrors(polygon)
        self.assertEqual(pairing.row_motion(polygon, pairs, (1,) * 200), "")
        self.assertEqual(pairing.row_motion(polygon, pairs, (1, 2) * 100), reference((3, 4, 2)).normal("01"))
        for row in ((1,) * 201, (1, 2) * 101, (1, -1) * 300):
            with self.assertRaises(NotRow):
                pairing.row_motion(polygon, pairs, row)
        free = ((0, 0, 0), ("",))
        self.assertEqual(pairing.row_motion(free, pairs, (1, 2, 3, -2) * 50), "0121" * 50)


class Walks(unittest.TestCase):
    def test_against_search(self):
        for polygon, pairs in all_gluings():
            slow = reference(polygon[0])
            for at, word in enumerate(some_words(3, 5, 0, 12)):
                tile = polygon[1][at * 7 % len(polygon[1])]
                end, row = pairing.walked(polygon, pairs, tile, word)
                self.assertEqual((end, row), slow_walk(polygon, pairs, tile, word))
                # The motion of the row takes the end to the tile to which the word leads.
                motion = pairing.row_motion(polygon, pairs, row)
                self.assertEqual(slow.normal(motion + end), slow.normal(tile + word))

    def test_single_letters(self):
        pairs = ((("0", "1"), ("", "1")), (("", "2"), ("", "2")), (("0", "2"), ("0", "2")))
        for tile, letter, told in (("", "0", ("0", ())), ("0", "0", ("", ())), ("", "1", ("0", (1,))),
                                   ("0", "1", ("", (-1,))), ("", "2", ("", (2,))),
                                   ("0", "2", ("0", (3,)))):
            self.assertEqual(pairing.walked(TWO, pairs, tile, letter), told)
        self.assertEqual(pairing.walked(TWO, pairs, "", "2211"), ("", (2, 2, 1, -1)))
        self.assertEqual(pairing.walked(TWO, pairs, "", ""), ("", ()))

    def test_sixty_letters(self):
        self.assertEqual(pairing.walked(TWO, PAIRS, "", "1" * 60), ("", (-1, 1) * 30))
        with self.assertRaises(NotWord):
            pairing.walked(TWO, PAIRS, "", "1" * 61)

    def test_errors_in_their_order(self):
        for wrong in ("3", "0" * 61, "a"):
            with self.assertRaises(NotWord):
                pairing.walked(TWO, PAIRS, "0", wrong)
        for tile in ("1", "01", "00", "000", "3", "0" * 61):
            for word in ("", "3", "0" * 61):
                with self.assertRaises(BadNumber):
                    pairing.walked(TWO, PAIRS, tile, word)

    def test_all_floors(self):
        for orders in ALL:
            for letter in LETTERS:
                polygon = (orders, ("",))
                self.assertEqual(pairing.walked(polygon, pairing.mirrors(polygon), "", letter),
                                 ("", (int(letter) + 1,)))
                self.assertEqual(border_of(polygon), border_sides(polygon))


if __name__ == "__main__":
    unittest.main()
