"""Promises [180] to [182]: maps, their closed sides and their rooms."""

import random
import unittest

from foldfloor.errors import BadNumber, NotWord
from foldfloor.maps import Map
from foldfloor.pairing import mirrors
from foldfloor.rings import ball
from tests.gluings import fitting_gluings, slow_step, wrong_gluings
from tests.reference import LETTERS
from tests.test_copies import slow_part
from tests.test_images import FREE, ONE, PAIRS, TWO, WHOLE
from tests.test_words import some_words

GLUED = ((("0", "1"), ("", "1")), (("", "2"), ("", "2")), (("0", "2"), ("0", "2")))


class Slow:
    """A map by its definitions."""

    def __init__(self, polygon, pairs, closed):
        self.polygon, self.pairs = polygon, pairs
        self.closed = set(closed)
        for tile, letter in closed:
            self.closed.add((slow_step(polygon, pairs, tile, letter)[0], letter))

    def closed_sides(self):
        return [(tile, letter) for tile in self.polygon[1] for letter in LETTERS
                if (tile, letter) in self.closed]

    def is_open(self, tile, letter):
        return (slow_part(self.polygon, self.pairs, tile)[1], letter) not in self.closed

    def room(self, tile):
        found = [tile]
        for here in found:
            for letter in LETTERS:
                there = slow_step(self.polygon, self.pairs, here, letter)[0]
                if (here, letter) not in self.closed and there not in found:
                    found.append(there)
        return [tile for tile in self.polygon[1] if tile in found]

    def rooms(self):
        found = []
        for tile in self.polygon[1]:
            if self.room(tile) not in found:
                found.append(self.room(tile))
        return found


def some_sides(polygon, source):
    sides = [(tile, letter) for tile in polygon[1] for letter in LETTERS]
    return source.choices(sides, k=source.choice((0, 1, len(sides) // 4, len(sides) // 2)))


def some_maps():
    source = random.Random(7)
    return [(polygon, pairs, some_sides(polygon, source))
            for polygon, pairs in fitting_gluings() if len(polygon[1]) < 30 for _ in range(2)]


class Sides(unittest.TestCase):
    def test_against_search(self):
        for polygon, pairs, closed in some_maps():
            given = list(closed)
            chart = Map(polygon, pairs, closed)
            slow = Slow(polygon, pairs, closed)
            self.assertEqual(chart.closed_sides(), slow.closed_sides())
            self.assertEqual(len(chart), len(slow.closed_sides()))
            self.assertEqual(closed, given)
            for tile in some_words(61, 2, 0, 8) + [polygon[1][-1]]:
                for letter in LETTERS:
                    self.assertIs(chart.is_open(tile, letter), slow.is_open(tile, letter))

    def test_sides_on_the_other_side(self):
        # Over an inner side, over a pair in both directions, and a mirror.
        for closed, told in (([("", "0")], [("", "0"), ("0", "0")]), ([("0", "0")], [("", "0"), ("0", "0")]),
                             ([("", "1")], [("", "1"), ("0", "1")]), ([("0", "1")], [("", "1"), ("0", "1")]),
                             ([("", "2")], [("", "2")]), ([("0", "2")], [("0", "2")]), ([], []),
                             ([("0", "2"), ("", "2"), ("0", "2")], [("", "2"), ("0", "2")]),
                             ([("0", "2"), ("0", "1"), ("", "1")], [("", "1"), ("0", "1"), ("0", "2")])):
            chart = Map(TWO, GLUED, closed)
            self.assertEqual(chart.closed_sides(), told)
            self.assertEqual(len(chart), len(told))

    def test_both_sides_on_the_floor(self):
        for polygon, pairs, closed in some_maps()[::5]:
            chart = Map(polygon, pairs, closed)
            for tile in some_words(67, 3, 0, 7):
                for letter in LETTERS:
                    self.assertIs(chart.is_open(tile, letter), chart.is_open(tile + letter, letter))

    def test_closed_mirrors(self):
        chart = Map(ONE, mirrors(ONE), [("", "1")])
        for tile in ball((3, 4, 2), 4):
            self.assertEqual([chart.is_open(tile, letter) for letter in LETTERS], [True, False, True])
        self.assertEqual(chart.closed_sides(), [("", "1")])
        self.assertEqual(chart.rooms(), [[""]])

    def test_lists_are_not_shared(self):
        closed = [("", "1")]
        chart = Map(ONE, mirrors(ONE), closed)
        closed.append(("", "2"))
        chart.closed_sides().clear()
        self.assertEqual(chart.closed_sides(), [("", "1")])
        self.assertEqual(len(chart), 1)
        chart.rooms()[0].clear()
        self.assertEqual(chart.rooms(), [[""]])


class Rooms(unittest.TestCase):
    def test_against_search(self):
        numbers = set()
        for polygon, pairs, closed in some_maps():
            chart = Map(polygon, pairs, closed)
            slow = Slow(polygon, pairs, closed)
            told = slow.rooms()
            self.assertEqual(chart.rooms(), told)
            numbers.add(len(told))
            for tile in some_words(71, 2, 0, 8) + [""]:
                place = slow_part(polygon, pairs, tile)[1]
                found = chart.room_of(tile)
                self.assertIn(place, told[found])
        self.assertTrue(numbers.issuperset([1, 2, 3]))

    def test_order(self):
        polygon = ((0, 0, 0), ("", "0", "1", "2", "01"))
        pairs = mirrors(polygon)
        for closed, told in (([], [["", "0", "1", "2", "01"]]),
                             ([("", "0")], [["", "1", "2"], ["0", "01"]]),
                             ([("", "0"), ("1", "1")], [["", "2"], ["0", "01"], ["1"]]),
                             ([("01", "1")], [["", "0", "1", "2"], ["01"]]),
                             ([("01", "0"), ("0", "2")], [["", "0", "1", "2", "01"]]),
                             ([(tile, x) for tile in polygon[1] for x in LETTERS],
                              [[""], ["0"], ["1"], ["2"], ["01"]])):
            chart = Map(polygon, pairs, closed)
            self.assertEqual(chart.rooms(), told)
            for k, room in enumerate(told):
                for tile in room:
                    self.assertEqual(chart.room_of(tile), k)
                    self.assertEqual(chart.room_of("00" + tile), k)

    def test_over_pairs(self):
        self.assertEqual(Map(TWO, GLUED, [("", "0")]).rooms(), [["", "0"]])
        self.assertEqual(Map(TWO, GLUED, [("", "0"), ("", "1")]).rooms(), [[""], ["0"]])
        self.assertEqual(Map(TWO, PAIRS, [("", "0")]).rooms(), [["", "0"]])

    def test_open_ways_end_in_the_room(self):
        source = random.Random(9)
        for polygon, pairs, closed in some_maps()[::7]:
            chart = Map(polygon, pairs, closed)
            for _ in range(5):
                tile, word = "", ""
                for _ in range(9):
                    letter = source.choice(LETTERS)
                    if chart.is_open(tile + word, letter):
                        word += letter
                self.assertEqual(chart.room_of(tile + word), chart.room_of(tile))


class Changes(unittest.TestCase):
    def test_against_search(self):
        source = random.Random(10)
        for polygon, pairs, closed in some_maps()[::2]:
            chart = Map(polygon, pairs, closed)
            before = chart.closed_sides()
            for tile in some_words(73, 2, 0, 8):
                letter = source.choice(LETTERS)
                place = slow_part(polygon, pairs, tile)[1]
                there = slow_step(polygon, pairs, place, letter)[0]
                more = chart.with_closed(tile, letter)
                self.assertIsInstance(more, Map)
                self.assertEqual(set(more.closed_sides()), set(before) | {(place, letter), (there, letter)})
                self.assertEqual(more, Map(polygon, pairs, before + [(place, letter)]))
                less = more.with_open(tile, letter)
                told = [side for side in before if side not in ((place, letter), (there, letter))]
                self.assertEqual(less.closed_sides(), told)
                self.assertEqual(chart.with_open(tile, letter).closed_sides(), told)
                self.assertIs(less.is_open(tile, letter), True)
                self.assertIs(more.is_open(tile, letter), False)
                self.assertIs(more.is_open(tile + letter, letter), False)
            # The map does not change.
            self.assertEqual(chart.closed_sides(), before)
            self.assertEqual(chart, Map(polygon, pairs, closed))

    def test_small_ones(self):
        chart = Map(TWO, GLUED, [])
        self.assertEqual(chart.with_closed("", "1").closed_sides(), [("", "1"), ("0", "1")])
        self.assertEqual(chart.with_closed("", "2").with_closed("0", "0").closed_sides(),
                         [("", "0"), ("", "2"), ("0", "0")])
        self.assertEqual(chart.with_closed("", "1").with_open("0", "1").closed_sides(), [])
        self.assertEqual(chart.with_closed("", "2").with_open("0", "2").closed_sides(), [("", "2")])
        self.assertEqual(chart.closed_sides(), [])


class Equality(unittest.TestCase):
    def test_equal_maps(self):
        chart = Map(TWO, GLUED, [("", "1"), ("", "2")])
        for closed in ([("", "2"), ("", "1")], [("0", "1"), ("", "2")], [("", "1"), ("", "2"), ("0", "1")],
                       [("", "2"), ("", "2"), ("0", "1")]):
            other = Map(TWO, GLUED, closed)
            self.assertTrue(chart == other)
            self.assertFalse(chart != other)

    def test_different_maps(self):
        chart = Map(TWO, GLUED, [("", "1")])
        for other in (Map(TWO, GLUED, []), Map(TWO, GLUED, [("", "2")]), Map(TWO, GLUED, [("", "1"), ("", "2")]),
                      Map(TWO, GLUED[::-1], [("", "1")]), Map(TWO, PAIRS, [("", "1")]),
                      Map(FREE, GLUED, [("", "1")])):
            self.assertFalse(chart == other)
            self.assertTrue(chart != other)
        for other in (None, 1, [("", "1"), ("0", "1")], (TWO, GLUED, [("", "1")])):
            self.assertFalse(chart == other)
        # Sides and pairs that are exchanged tell another pairing.
        other = tuple(pair[::-1] for pair in GLUED)
        self.assertFalse(Map(TWO, other, []) == Map(TWO, GLUED, []))

    def test_maps_without_closed_sides(self):
        self.assertTrue(Map(TWO, GLUED, []) == Map(TWO, GLUED, []))
        self.assertFalse(Map(TWO, GLUED, []) == Map(FREE, GLUED, []))
        self.assertEqual(len(Map(TWO, GLUED, [])), 0)
        self.assertEqual(len(Map(WHOLE, (), [("", "0")])), 2)


class Errors(unittest.TestCase):
    def test_errors_in_their_order(self):
        for side in (("1", "0"), ("01", "1"), ("00", "1"), ("", "3"), ("", ""), ("3", "0"), ("", "01"),
                     ("0" * 61, "1")):
            with self.assertRaises(BadNumber):
                Map(TWO, GLUED, [side])
            with self.assertRaises(BadNumber):
                Map(TWO, GLUED, [("", "0"), side])
            for polygon, pairs, error in wrong_gluings():
                self.assertRaises(error, Map, polygon, pairs, [side])
                self.assertRaises(error, Map, polygon, pairs, [])

    def test_wrong_words_and_letters(self):
        chart = Map(TWO, GLUED, [("", "1")])
        for call in (chart.is_open, chart.with_closed, chart.with_open):
            for letter in ("", "3", "01", "a"):
                with self.assertRaises(BadNumber):
                    call("0", letter)
                for wrong in ("3", "0" * 61):
                    with self.assertRaises(NotWord):
                        call(wrong, letter)
            with self.assertRaises(NotWord):
                call("3", "0")
            self.assertIsNotNone(call("0" * 60, "0"))
        for wrong in ("3", "0" * 61):
            with self.assertRaises(NotWord):
                chart.room_of(wrong)
        self.assertEqual(chart.room_of("01" * 30), 0)


if __name__ == "__main__":
    unittest.main()
