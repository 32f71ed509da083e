"""Promises [103] to [108]: rounds, fitting and overlaps."""

import random
import unittest

from foldfloor import rounds
from foldfloor.errors import NotPairing, NotPolygon
from foldfloor.pairing import mirrors, row_motion
from foldfloor.rings import ball
from foldfloor.rounds import Round
from tests.gluings import (CORNERS, every_pairing, fitting_gluings, mixed, reference, slow_overlap,
                           slow_round, slow_step, slow_walk, some_gluings)
from tests.reference import order_of
from tests.test_border import NOT_POLYGONS

TWO = ((3, 4, 2), ("", "0"))

CALLS = (rounds.rounds_of, rounds.fits, rounds.overlap)


def all_gluings():
    return some_gluings() + some_gluings(7) + list(fitting_gluings())


def told_in_order(polygon, pairs, tiles, one, other):
    """Whether a round is open, and its tiles in the told order."""
    ends = [(tile, letter) for tile in tiles for letter in (one, other)
            if slow_step(polygon, pairs, tile, letter)[0] == tile]
    first = min(polygon[1].index(tile) for tile in tiles)
    found = [polygon[1][first]]
    letter = one
    if ends:
        found = [polygon[1][min(polygon[1].index(tile) for tile, _ in ends)]]
        letter = [x for x in (one, other) if (found[0], x) not in ends or len(tiles) == 1][0]
    while len(found) < len(tiles):
        found.append(slow_step(polygon, pairs, found[-1], letter)[0])
        letter = other if letter == one else one
    return not ends, tuple(found)


def slow_turns(polygon, pairs, tiles, is_open, one, other):
    order = order_of(polygon[0], one, other)
    for tile in tiles:
        if slow_walk(polygon, pairs, tile, (one + other) * order)[0] != tile:
            return None
    around = 2 * order if is_open else order
    assert around % len(tiles) == 0
    return around // len(tiles)


def slow_rounds(polygon, pairs):
    """The rounds, each a tuple of its fields, in order."""
    found = []
    for tile in polygon[1]:
        for one, other in CORNERS:
            tiles = slow_round(polygon, pairs, tile, one, other)
            if min(tiles, key=polygon[1].index) == tile:
                is_open, told = told_in_order(polygon, pairs, tiles, one, other)
                turns = slow_turns(polygon, pairs, told, is_open, one, other)
                found.append((one, other, told, is_open, turns))
    return found


def fields(around):
    return around.first, around.second, around.tiles, around.is_open, around.turns


def fields_of(polygon, pairs):
    return [fields(around) for around in rounds.rounds_of(polygon, pairs)]


class Rounds(unittest.TestCase):
    def test_against_search(self):
        met = set()
        for polygon, pairs in all_gluings():
            told = slow_rounds(polygon, pairs)
            self.assertEqual(fields_of(polygon, pairs), told, (polygon, pairs))
            met |= {(is_open, turns) for _, _, _, is_open, turns in told}
            for around in rounds.rounds_of(polygon, pairs):
                self.assertIsInstance(around, Round)
                self.assertEqual(len(around), len(around.tiles))
                self.assertIsInstance(around.tiles, tuple)
        for is_open in (True, False):
            self.assertTrue(met.issuperset((is_open, turns) for turns in (None, 0, 1, 2, 3)))

    def test_every_pairing_of_small_polygons(self):
        source = random.Random(4)
        for orders in ((3, 4, 2), (2, 3, 6), (0, 3, 2), (4, 4, 2)):
            for tiles in (("",), ("", "0"), ("", "0", "1"), ("1", "12", "121")):
                for pairs in every_pairing((orders, tiles))[::2]:
                    pairs = mixed(pairs, source)
                    self.assertEqual(fields_of((orders, tiles), pairs), slow_rounds((orders, tiles), pairs))

    def test_tiles_of_each_corner_once(self):
        for polygon, pairs in all_gluings():
            for one, other in CORNERS:
                tiles = [tile for around in rounds.rounds_of(polygon, pairs) for tile in around.tiles
                         if (around.first, around.second) == (one, other)]
                self.assertEqual(sorted(tiles), sorted(polygon[1]))

    def test_examples(self):
        polygon = ((3, 4, 2), ("",))
        self.assertIs(rounds.fits(polygon, mirrors(polygon)), True)
        self.assertEqual(fields_of(polygon, mirrors(polygon)),
                         [("0", "1", ("",), False, 3), ("0", "2", ("",), False, 2),
                          ("1", "2", ("",), False, 4)])
        pairs = ((("", "1"), ("0", "1")), (("", "2"), ("0", "2")))
        self.assertEqual(fields_of(TWO, pairs),
                         [("0", "1", ("", "0"), True, 3), ("0", "2", ("", "0"), True, 2),
                          ("1", "2", ("", "0"), True, 4)])

    def test_open_rounds_begin_in_the_polygon_order(self):
        # All six tiles around a corner, and their outer sides paired across.
        polygon = ((3, 2, 2), ("", "0", "1", "01", "10", "010"))
        pairs = tuple((((tile, "2"),) * 2) for tile in polygon[1])
        self.assertEqual(fields_of(polygon, pairs)[0],
                         ("0", "1", ("", "0", "01", "010", "10", "1"), True, 1))

    def test_rows_of_tiles_begin_at_the_first_end(self):
        # Four tiles in a row around one corner: the ends are 01 and 1, of which 1 comes first.
        polygon = ((4, 2, 2), ("", "0", "1", "01"))
        found = fields_of(polygon, mirrors(polygon))
        self.assertEqual(found[0], ("0", "1", ("1", "", "0", "01"), False, 1))
        polygon = ((6, 2, 2), ("", "0", "01"))
        self.assertEqual(fields_of(polygon, mirrors(polygon))[0],
                         ("0", "1", ("", "0", "01"), False, 2))
        polygon = ((5, 2, 2), ("", "0", "1"))
        self.assertEqual(fields_of(polygon, mirrors(polygon))[0],
                         ("0", "1", ("0", "", "1"), False, None))

    def test_order_zero(self):
        polygon = ((0, 0, 3), ("", "0", "1", "01", "10"))
        found = fields_of(polygon, mirrors(polygon))
        self.assertEqual(found[0], ("0", "1", ("01", "0", "", "1", "10"), False, 0))
        pairs = ((("01", "0"), ("10", "1")),)
        with self.assertRaises(NotPairing):
            rounds.rounds_of(polygon, pairs)
        polygon = ((0, 2, 2), ("", "0"))
        pairs = ((("", "1"), ("0", "1")), (("", "2"), ("0", "2")))
        self.assertEqual(fields_of(polygon, pairs)[0], ("0", "1", ("", "0"), True, 0))

    def test_fields_of_an_object(self):
        around = Round("0", "2", ("", "0", "2"), False, None)
        self.assertEqual(fields(around), ("0", "2", ("", "0", "2"), False, None))
        self.assertEqual(len(around), 3)
        self.assertEqual(len(Round("1", "2", ("01",), True, 0)), 1)

    def test_whole_floors(self):
        for orders in ((2, 2, 2), (3, 3, 2), (3, 4, 2)):
            polygon = (orders, tuple(ball(orders, 9)))
            self.assertIs(rounds.fits(polygon, ()), True)
            self.assertIsNone(rounds.overlap(polygon, ()))
            for around in rounds.rounds_of(polygon, ()):
                self.assertEqual(len(around), 2 * order_of(orders, around.first, around.second))
                self.assertEqual((around.is_open, around.turns), (True, 1))

    def test_lists_are_not_shared(self):
        pairs = mirrors(TWO)
        rounds.rounds_of(TWO, pairs).clear()
        self.assertEqual(len(rounds.rounds_of(TWO, pairs)), 4)


class Fitting(unittest.TestCase):
    def test_against_search(self):
        met = set()
        for polygon, pairs in all_gluings():
            told = slow_overlap(polygon, pairs)
            self.assertEqual(rounds.overlap(polygon, pairs), told, (polygon, pairs))
            self.assertIs(rounds.fits(polygon, pairs), told is None)
            met.add(told is None)
            if told is not None:
                # The motion takes one tile of the polygon to another one.
                row, end, start = told
                motion = row_motion(polygon, pairs, row)
                self.assertEqual(reference(polygon[0]).normal(motion + end), start)
                self.assertNotEqual(end, start)
                self.assertNotEqual(motion, "")
        self.assertEqual(met, {True, False})

    def test_fitting_ones(self):
        for polygon, pairs in fitting_gluings():
            self.assertIs(rounds.fits(polygon, pairs), True)
            self.assertIsNone(rounds.overlap(polygon, pairs))

    def test_order_of_the_search(self):
        # The corner of 0 and 2 comes before that of 1 and 2.
        polygon = ((2, 3, 3), ("", "2"))
        pairs = mirrors(polygon)
        self.assertEqual(rounds.overlap(polygon, pairs)[1:], ("2", ""))
        self.assertEqual(rounds.overlap(polygon, pairs)[0],
                         slow_walk(polygon, pairs, "", "020202")[1])
        # The first tile of a polygon need not be the one that is told.
        polygon = ((3, 2, 4), ("0", "1", "01", "10", "010"))
        pairs = mirrors(polygon)
        self.assertEqual(rounds.overlap(polygon, pairs), slow_overlap(polygon, pairs))

    def test_errors(self):
        for call in CALLS:
            for wrong in NOT_POLYGONS:
                with self.assertRaises(NotPolygon):
                    call(wrong, ())
            for pairs in ((), ((("", "1"), ("", "1")),), mirrors(TWO) + mirrors(TWO)[:1],
                          ((("", "1"), ("0", "2")), (("", "2"), ("0", "1")))):
                with self.assertRaises(NotPairing):
                    call(TWO, pairs)


if __name__ == "__main__":
    unittest.main()
