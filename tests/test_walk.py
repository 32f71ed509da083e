"""Promises [183] to [187]: ways over the open sides of maps."""

import unittest

from foldfloor import walk
from foldfloor.errors import BadNumber, NotWord, TooLarge
from foldfloor.maps import Map
from foldfloor.pairing import mirrors
from foldfloor.polygons import border_sides, polygon_of
from foldfloor.rings import ball
from foldfloor.words import Tiles, normal
from tests.gluings import large_gluings, reference, slow_step
from tests.reference import LETTERS, all_words, rank
from tests.test_copies import slow_part
from tests.test_images import ONE, TWO, WHOLE
from tests.test_maps import GLUED, Slow, some_maps
from tests.test_words import some_words

WIDE = ((0, 0, 0), ("",))

WRONG_WORDS = ("3", "0" * 61, "01a")


def slow_end(slow, place, word):
    """The place to which the walk leads along a word over open sides alone, or None."""
    for letter in word:
        if (place, letter) in slow.closed:
            return None
        place = slow_step(slow.polygon, slow.pairs, place, letter)[0]
    return place


def slow_reach(slow, tile, steps):
    """The tiles to which open ways of at most so many letters lead, each with its first way."""
    floor = reference(slow.polygon[0])
    start = slow_part(slow.polygon, slow.pairs, tile)[1]
    found = {}
    for word in all_words(steps):
        if slow_end(slow, start, word) is not None:
            found.setdefault(floor.normal(tile + word), word)
    return found


def row_of(orders, words, opened):
    """A map of joined tiles with mirrors, whose border sides are closed but for some."""
    polygon = polygon_of(orders, words)
    closed = [side for side in border_sides(polygon) if side not in opened]
    return Map(polygon, mirrors(polygon), closed)


class PlaceWays(unittest.TestCase):
    def test_against_all_words(self):
        lengths = set()
        for polygon, pairs, closed in some_maps():
            chart = Map(polygon, pairs, closed)
            slow = Slow(polygon, pairs, closed)
            for start in polygon[1][:2]:
                firsts = {}
                for word in all_words(6):
                    firsts.setdefault(slow_end(slow, start, word), word)
                for end in polygon[1]:
                    found = walk.first_way(chart, start, end)
                    if end in firsts:
                        self.assertEqual(found, firsts[end])
                        lengths.add(len(found))
                    elif found is not None:
                        self.assertGreater(len(found), 6)
                        self.assertEqual(slow_end(slow, start, found), end)
                    else:
                        self.assertNotIn(end, slow.room(start))
        self.assertTrue(lengths.issuperset(range(6)))

    def test_tiles_of_the_floor(self):
        for polygon, pairs, closed in some_maps()[::5]:
            chart = Map(polygon, pairs, closed)
            for start, end in zip(some_words(81, 4, 0, 9), some_words(82, 4, 0, 9)):
                places = [slow_part(polygon, pairs, tile)[1] for tile in (start, end)]
                self.assertEqual(walk.first_way(chart, start, end), walk.first_way(chart, *places))

    def test_on_the_floor(self):
        # The way leads, as an open way, to a tile with the place, and no shorter one does.
        for polygon, pairs, closed in some_maps()[::7]:
            chart = Map(polygon, pairs, closed)
            slow = Slow(polygon, pairs, closed)
            for start, end in zip(some_words(83, 2, 0, 6), some_words(84, 2, 0, 6)):
                found = walk.first_way(chart, start, end)
                place = slow_part(polygon, pairs, end)[1]
                if found is not None:
                    self.assertEqual(slow_part(polygon, pairs, start + found)[1], place)
                    for at, letter in enumerate(found):
                        self.assertTrue(chart.is_open(start + found[:at], letter))
                for there in slow_reach(slow, start, 4):
                    if slow_part(polygon, pairs, there)[1] == place:
                        self.assertLessEqual(len(found), 4)

    def test_own_place(self):
        chart = Map(ONE, mirrors(ONE), [(("", letter)) for letter in LETTERS])
        self.assertEqual(walk.first_way(chart, "", ""), "")
        # With one tile all tiles have the same place.
        self.assertEqual(walk.first_way(chart, "", "0120"), "")
        chart = Map(TWO, GLUED, [])
        for tile in ("", "0", "012", "0" * 60):
            self.assertEqual(walk.first_way(chart, tile, tile), "")

    def test_two_rooms(self):
        chart = Map(TWO, GLUED, [("", "0"), ("", "1")])
        self.assertIsNone(walk.first_way(chart, "", "0"))
        self.assertIsNone(walk.first_way(chart, "0", ""))
        self.assertEqual(walk.first_way(chart, "0", "0"), "")

    def test_sides_that_are_closed(self):
        self.assertEqual(walk.first_way(Map(TWO, GLUED, []), "", "0"), "0")
        self.assertEqual(walk.first_way(Map(TWO, GLUED, [("0", "0")]), "", "0"), "1")
        self.assertEqual(walk.first_way(Map(TWO, GLUED, [("0", "1")]), "", "0"), "0")
        # Over an open mirror one comes to the same tile, so that no way needs it.
        self.assertEqual(walk.first_way(Map(TWO, GLUED, [("", "0"), ("", "2")]), "", "0"), "1")

    def test_long_ways(self):
        words = ["012012012012"[:many] for many in range(13)]
        chart = row_of((0, 0, 0), words, [])
        self.assertEqual(walk.first_way(chart, "", words[-1]), words[-1])
        self.assertEqual(walk.first_way(chart, words[-1], ""), words[-1][::-1])
        self.assertEqual(walk.floor_way(chart, "", words[-1]), words[-1])
        self.assertIsNone(walk.floor_way(chart, "", words[-1], most=11))
        self.assertEqual(walk.ends(chart, "01"), 13)
        self.assertEqual(walk.reach(chart, "01", 2), ["", "0", "01", "012", "0120"])

    def test_wrong_words(self):
        chart = Map(TWO, GLUED, [])
        for wrong in WRONG_WORDS:
            self.assertRaises(NotWord, walk.first_way, chart, wrong, "")
            self.assertRaises(NotWord, walk.first_way, chart, "", wrong)
            self.assertRaises(NotWord, walk.floor_way, chart, wrong, "")
            self.assertRaises(NotWord, walk.floor_way, chart, "", wrong)


class Reaches(unittest.TestCase):
    def test_against_all_words(self):
        for polygon, pairs, closed in some_maps()[::2]:
            chart = Map(polygon, pairs, closed)
            slow = Slow(polygon, pairs, closed)
            for tile in some_words(85, 1, 0, 7) + [polygon[1][-1]]:
                for steps in (0, 1, 4):
                    told = sorted(slow_reach(slow, tile, steps), key=rank)
                    self.assertEqual(walk.reach(chart, tile, steps), told)

    def test_small_ones(self):
        chart = Map(ONE, mirrors(ONE), [("", "1")])
        self.assertEqual(walk.reach(chart, "", 0), [""])
        self.assertEqual(walk.reach(chart, "1010", 0), ["01"])
        self.assertEqual(walk.reach(chart, "", 1), ["", "0", "2"])
        self.assertEqual(walk.reach(chart, "", 12), ["", "0", "2", "02"])
        # Over an open mirror one comes, on the floor, to the tile beyond.
        self.assertEqual(walk.reach(chart, "1", 1), ["1", "10", "12"])
        shut = Map(ONE, mirrors(ONE), [("", letter) for letter in LETTERS])
        self.assertEqual(walk.reach(shut, "21", 12), ["21"])

    def test_order(self):
        chart = Map(WIDE, mirrors(WIDE), [("", "1")])
        self.assertEqual(walk.reach(chart, "01", 2), ["01", "010", "012", "0102", "0120"])

    def test_without_closed_sides(self):
        for orders in ((3, 4, 2), (3, 3, 3), (0, 3, 2), (0, 0, 0)):
            polygon = (orders, ("",))
            chart = Map(polygon, mirrors(polygon), [])
            self.assertEqual(chart.rooms(), [[""]])
            self.assertEqual(walk.reach(chart, "", 5), ball(orders, 5))

    def test_sixty_letters(self):
        chart = Map(WIDE, mirrors(WIDE), [])
        tile = "012" * 20
        self.assertEqual(walk.reach(chart, tile, 1), [tile[:-1], tile, tile + "0", tile + "1"])

    def test_thousand_tiles(self):
        # There are 1 + 3 + 6 + .. + 3 * 2^7 = 766 tiles of at most 8 letters, and 1534 of at most 9.
        chart = Map(WIDE, mirrors(WIDE), [])
        self.assertEqual(len(walk.reach(chart, "0", 8)), 766)
        for steps in (9, 10, 12):
            with self.assertRaises(TooLarge):
                walk.reach(chart, "0", steps)
        # Exactly 1000 tiles are not too many, and 1001 are.
        polygon = polygon_of((0, 0, 0), ["", "0", "1", "2"])
        self.assertEqual(len(walk.reach(Map(polygon, mirrors(polygon), [("2", "1")]), "2", 10)), 1000)
        polygon = polygon_of((7, 4, 8), ["", "0", "2", "21"])
        pairs = ((("", "1"), ("0", "1")), (("0", "2"), ("0", "2")), (("2", "0"), ("21", "0")),
                 (("21", "2"), ("21", "2")))
        chart = Map(polygon, pairs, [("", "1"), ("0", "2")])
        with self.assertRaises(TooLarge):
            walk.reach(chart, "2", 12)
        self.assertLess(len(walk.reach(chart, "2", 11)), 1000)
        # Closed sides make it smaller: there are two tiles of each length from 1 on.
        shut = Map(WIDE, mirrors(WIDE), [("", "2")])
        self.assertEqual(len(walk.reach(shut, "012", 12)), 25)

    def test_wrong_arguments(self):
        chart = Map(WIDE, mirrors(WIDE), [])
        for steps in (-1, 13, -10 ** 20, 10 ** 20):
            with self.assertRaises(BadNumber):
                walk.reach(chart, "0", steps)
            for wrong in WRONG_WORDS:
                with self.assertRaises(NotWord):
                    walk.reach(chart, wrong, steps)
                with self.assertRaises(NotWord):
                    walk.reach(chart, wrong, 12)

    def test_lists_are_not_shared(self):
        chart = Map(ONE, mirrors(ONE), [("", "1")])
        walk.reach(chart, "", 3).clear()
        self.assertEqual(walk.reach(chart, "", 3), ["", "0", "2", "02"])


class FloorWays(unittest.TestCase):
    def test_against_all_words(self):
        for polygon, pairs, closed in some_maps()[::3]:
            chart = Map(polygon, pairs, closed)
            slow = Slow(polygon, pairs, closed)
            floor = reference(polygon[0])
            for one in some_words(87, 1, 0, 6):
                told = slow_reach(slow, one, 5)
                for way in all_words(3):
                    there = floor.normal(one + way)
                    self.assertEqual(walk.floor_way(chart, one, there, most=5), told.get(there))

    def test_around_closed_sides(self):
        # Around a corner, as the nearest side is closed.
        chart = Map(WHOLE, (), [("", "0")])
        self.assertEqual(walk.floor_way(chart, "", "0"), "202")
        self.assertEqual(walk.floor_way(chart, "0", ""), "202")
        self.assertIsNone(walk.floor_way(chart, "0", "", most=2))
        chart = Map(WHOLE, (), [("", "0"), ("", "2")])
        self.assertEqual(walk.floor_way(chart, "", "0"), "10101")
        # The places are the same, but the tiles are not.
        chart = Map(ONE, mirrors(ONE), [])
        self.assertEqual(walk.first_way(chart, "", "0"), "")
        self.assertEqual(walk.floor_way(chart, "", "0"), "0")

    def test_without_closed_sides(self):
        for polygon, pairs in large_gluings()[::9]:
            chart = Map(polygon, pairs, [])
            floor = Tiles(polygon[0])
            for one, other in zip(some_words(88, 6, 0, 50), some_words(89, 6, 0, 7)):
                self.assertEqual(walk.floor_way(chart, one, one + other), floor.normal(other))
        whole = Map(WHOLE, (), [])
        for one in WHOLE[1]:
            self.assertEqual(walk.floor_way(whole, "01", one), normal((3, 3, 2), "10" + one))

    def test_most_letters(self):
        polygon = ((3, 3, 3), ("",))
        chart = Map(polygon, mirrors(polygon), [])
        tile = "012012012012"
        self.assertEqual(walk.floor_way(chart, "", tile), tile)
        self.assertEqual(walk.floor_way(chart, "", tile, most=12), tile)
        self.assertIsNone(walk.floor_way(chart, "", tile, most=11))
        self.assertIsNone(walk.floor_way(chart, "", tile + "0"))
        self.assertEqual(walk.floor_way(chart, "1", "10", most=1), "0")
        self.assertIsNone(walk.floor_way(chart, "1", "10", most=0))
        self.assertEqual(walk.floor_way(chart, "1", "1", most=0), "")
        self.assertEqual(walk.floor_way(chart, "01" * 30, "", most=0), "")

    def test_no_open_way(self):
        chart = Map(ONE, mirrors(ONE), [("", "1")])
        self.assertIsNone(walk.floor_way(chart, "", "1"))
        self.assertIsNone(walk.floor_way(chart, "1", ""))
        self.assertEqual(walk.floor_way(chart, "1", "120"), "02")
        # All tiles have one place, so the first way between the places is the empty word.
        self.assertEqual(walk.first_way(chart, "", "1"), "")

    def test_thousand_tiles(self):
        chart = Map(WIDE, mirrors(WIDE), [])
        self.assertEqual(walk.floor_way(chart, "", "01201201", most=12), "01201201")
        with self.assertRaises(TooLarge):
            walk.floor_way(chart, "", "012012012012")
        with self.assertRaises(TooLarge):
            walk.floor_way(chart, "", "2" + "01" * 20, most=9)
        self.assertIsNone(walk.floor_way(chart, "", "2" + "01" * 20, most=8))
        # The search ends where the tile is met: the first ones of nine letters come early enough.
        self.assertEqual(walk.floor_way(chart, "", "010101010"), "010101010")
        with self.assertRaises(TooLarge):
            walk.floor_way(chart, "", "212121212")
        # A tile and itself are met at once.
        self.assertEqual(walk.floor_way(chart, "21", "21"), "")

    def test_wrong_numbers(self):
        chart = Map(WIDE, mirrors(WIDE), [])
        for most in (-1, 13, -10 ** 20, 10 ** 20):
            with self.assertRaises(BadNumber):
                walk.floor_way(chart, "", "0", most=most)
            for wrong in WRONG_WORDS:
                with self.assertRaises(NotWord):
                    walk.floor_way(chart, wrong, "", most=most)
                with self.assertRaises(NotWord):
                    walk.floor_way(chart, "", wrong, most=most)


class Ends(unittest.TestCase):
    def test_against_search(self):
        numbers = set()
        for polygon, pairs, closed in some_maps()[::2]:
            chart = Map(polygon, pairs, closed)
            slow = Slow(polygon, pairs, closed)
            floor = reference(polygon[0])
            for tile in some_words(91, 1, 0, 7):
                found = [(floor.normal(tile), slow_part(polygon, pairs, tile)[1])]
                seen = {found[0][0]}
                for here, place in found:
                    for letter in LETTERS:
                        there = floor.normal(here + letter)
                        if (place, letter) not in slow.closed and there not in seen and len(seen) <= 40:
                            seen.add(there)
                            found.append((there, slow_step(polygon, pairs, place, letter)[0]))
                told = walk.ends(chart, tile)
                if len(seen) <= 40:
                    self.assertEqual(told, len(seen))
                    numbers.add(told)
                else:
                    self.assertTrue(told is None or told > 40)
        self.assertTrue(numbers.issuperset([1, 2, 4]))

    def test_same_in_a_room(self):
        for polygon, pairs, closed in some_maps()[::5]:
            chart = Map(polygon, pairs, closed)
            told = {}
            for tile in some_words(92, 6, 0, 12):
                found = walk.ends(chart, tile)
                self.assertEqual(told.setdefault(chart.room_of(tile), found), found)

    def test_whole_floors(self):
        for orders, many in (((3, 3, 2), 24), ((3, 4, 2), 48), ((2, 3, 5), 120), ((2, 2, 12), 48)):
            polygon = (orders, ("",))
            self.assertEqual(walk.ends(Map(polygon, mirrors(polygon), []), "012"), many)
        self.assertEqual(walk.ends(Map(WHOLE, (), []), "0"), 24)
        self.assertEqual(walk.ends(Map(WHOLE, (), [("", letter) for letter in LETTERS]), ""), 1)
        self.assertEqual(walk.ends(Map(WHOLE, (), [("", letter) for letter in LETTERS]), "1"), 23)

    def test_endless(self):
        for orders in ((3, 3, 3), (0, 0, 0), (3, 7, 2)):
            polygon = (orders, ("",))
            self.assertIsNone(walk.ends(Map(polygon, mirrors(polygon), []), "01"))
        # An open mirror at the end of a row doubles it, and another one at its beginning makes it endless.
        words = [("012" * 20)[:many] for many in range(60)]
        for opened, told in (([], 60), ([("", "1")], 120), ([("", "1"), (words[-1], "2")], None)):
            self.assertEqual(walk.ends(row_of((0, 0, 0), words, opened), "012"), told)

    def test_two_hundred_tiles(self):
        # Two open mirrors with a corner of the order 2 lay four rows together.
        for many, told in ((49, 196), (50, 200), (51, None)):
            words = [("12" * 30)[:length] for length in range(many)]
            chart = row_of((0, 0, 2), words, [("", "0"), ("", "2")])
            self.assertEqual(walk.ends(chart, ""), told)
            self.assertEqual(walk.ends(chart, words[-1]), told)
            self.assertEqual(walk.ends(chart, "02" + words[-1]), told)

    def test_wrong_words(self):
        chart = Map(TWO, GLUED, [])
        for wrong in WRONG_WORDS:
            self.assertRaises(NotWord, walk.ends, chart, wrong)
        self.assertIsNotNone(walk.ends(chart, "01" * 30))


class Example(unittest.TestCase):
    def test_example(self):
        chart = Map(ONE, mirrors(ONE), [("", "1")])
        self.assertEqual(chart.rooms(), [[""]])
        self.assertEqual(walk.reach(chart, "", 5), ["", "0", "2", "02"])
        self.assertEqual(walk.floor_way(chart, "", "02"), "02")
        self.assertIsNone(walk.floor_way(chart, "", "1"))
        self.assertEqual(walk.ends(chart, ""), 4)


if __name__ == "__main__":
    unittest.main()
