"""Promises [40] to [45] and [48] to [50]: walls."""

import unittest

from foldfloor import walls
from foldfloor.errors import NoAnswer, NotOrders, NotWord
from foldfloor.words import Tiles
from tests.reference import ALL, LETTERS, Reference, all_words, rank, turned
from tests.test_words import some_words

NO_WALLS = ["", "01", "012", "0101", "00", "0120"]


def slow_walls(slow, tile, way):
    found = []
    for at, letter in enumerate(way):
        here = tile + way[:at]
        found.append(slow.normal(here + letter + here[::-1]))
    return found


def odd_walls(slow, tile):
    """The walls that are crossed an odd number of times on the way from the first tile."""
    crossed = slow_walls(slow, "", tile)
    return {wall for wall in crossed if crossed.count(wall) % 2}


def some_walls(slow):
    """Walls of sides of short words, and a word that is not normal."""
    found = {slow.normal(word + x + word[::-1]) for word in all_words(2) for x in LETTERS}
    return sorted(found, key=rank) + ["00100", "2"]


FLOORS = [(3, 3, 2), (2, 2, 2), (3, 3, 3), (4, 4, 2), (3, 7, 2), (0, 3, 2), (0, 0, 0), (3, 0, 5)]


class Crossings(unittest.TestCase):
    def test_wall_of(self):
        for orders in ALL:
            slow = Reference(orders)
            for tile in all_words(2) + some_words(31, 5, 3, 6):
                for letter in LETTERS:
                    told = slow.normal(tile + letter + tile[::-1])
                    self.assertEqual(walls.wall_of(orders, tile, letter), told)
                    self.assertEqual(walls.wall_of(orders, tile + letter, letter), told)

    def test_crossings(self):
        for orders in ALL:
            slow = Reference(orders)
            for tile in ("", "0", "12", "21021"):
                for way in ["", "0", "11", "0101"] + some_words(32, 2, 5, 6):
                    told = slow_walls(slow, tile, way)
                    self.assertEqual(walls.crossings(orders, tile, way), told)

    def test_a_way_is_shortest_if_no_wall_comes_twice(self):
        for orders in ALL:
            slow = Reference(orders)
            for way in some_words(33, 25, 1, 8):
                crossed = walls.crossings(orders, "2101", way)
                self.assertEqual(len(set(crossed)) == len(crossed), slow.is_shortest(way))

    def test_all_shortest_ways_cross_the_same_walls(self):
        for orders in ((3, 3, 2), (4, 4, 2), (2, 5, 4), (0, 3, 2)):
            for word in some_words(30, 6, 5, 8):
                shortest = turned(orders, Tiles(orders).normal(word))
                told = {tuple(sorted(walls.crossings(orders, "1", way))) for way in shortest}
                self.assertEqual(len(told), 1)

    def test_long_results(self):
        word = "012" * 20
        self.assertEqual(walls.wall_of((0, 0, 0), word, "0"), word + "0" + word[::-1])
        crossed = walls.crossings((0, 0, 0), word[::-1], word)
        self.assertEqual(crossed[-1], "2")
        crossed = walls.crossings((0, 0, 0), word, word)
        self.assertEqual(crossed[-1], word + word + word[::-1][1:] + word[::-1])
        self.assertEqual(len(crossed), 60)

    def test_example(self):
        self.assertEqual(walls.wall_of((3, 3, 3), "0", "1"), "010")
        self.assertEqual(walls.wall_of((3, 3, 3), "1", "0"), "010")
        self.assertEqual(walls.crossings((3, 3, 3), "", "012"), ["0", "010", "01210"])

    def test_wrong_inputs(self):
        for letter in ("", "3", "01", "00"):
            with self.assertRaises(NotWord):
                walls.wall_of((3, 3, 3), "01", letter)
            with self.assertRaises(NotOrders):
                walls.wall_of((3, 3, 1), "01", letter)
        for wrong in ("3", "0" * 61):
            with self.assertRaises(NotWord):
                walls.wall_of((3, 3, 3), wrong, "0")
            with self.assertRaises(NotWord):
                walls.crossings((3, 3, 3), wrong, "0")
            with self.assertRaises(NotWord):
                walls.crossings((3, 3, 3), "0", wrong)
            with self.assertRaises(NotOrders):
                walls.crossings((3, 3), wrong, wrong)


class Mirrors(unittest.TestCase):
    def test_against_crossings_of_the_normal_word(self):
        for orders in ALL:
            slow = Reference(orders)
            for word in all_words(5):
                tile = slow.normal(word)
                told = tile in slow_walls(slow, "", tile)
                self.assertIs(walls.is_mirror(orders, word), told, (orders, word))

    def test_motions_of_sides(self):
        for orders in ALL:
            for word in some_words(34, 4, 0, 29):
                for letter in LETTERS:
                    self.assertIs(walls.is_mirror(orders, word + letter + word[::-1]), True)
                    self.assertIs(walls.is_mirror(orders, word + word[::-1]), False)

    def test_turned_mirror(self):
        longest = Reference((2, 3, 5)).rings(15)[-1][0]
        self.assertIs(walls.is_mirror((2, 3, 5), longest), False)
        self.assertIs(walls.is_mirror((3, 3, 3), "012"), False)
        self.assertIs(walls.is_mirror((3, 3, 3), "010"), True)
        self.assertIs(walls.is_mirror((2, 2, 2), "010"), True)
        self.assertIs(walls.is_mirror((2, 2, 2), "012"), False)

    def test_wrong_inputs(self):
        for wrong in ("3", "0" * 61):
            with self.assertRaises(NotWord):
                walls.is_mirror((3, 3, 3), wrong)
            with self.assertRaises(NotOrders):
                walls.is_mirror((3, 3, 1), wrong)


class Sides(unittest.TestCase):
    def test_near(self):
        for orders in FLOORS:
            slow = Reference(orders)
            for tile in all_words(3) + some_words(35, 4, 4, 7):
                odd = odd_walls(slow, tile)
                for wall in some_walls(slow):
                    near = slow.normal(wall) not in odd
                    self.assertIs(walls.is_near(orders, wall, tile), near, (orders, wall, tile))

    def test_mirrored_changes_sides(self):
        for orders in FLOORS:
            slow = Reference(orders)
            for tile in all_words(2) + some_words(36, 4, 3, 7):
                for wall in some_walls(slow):
                    there = walls.mirrored(orders, wall, tile)
                    self.assertEqual(there, slow.normal(wall + tile))
                    self.assertNotEqual(walls.is_near(orders, wall, there),
                                        walls.is_near(orders, wall, tile))
                    self.assertEqual(walls.mirrored(orders, wall, there), slow.normal(tile))

    def test_parting_and_sides_between(self):
        for orders in FLOORS:
            slow = Reference(orders)
            listed = ["", "1", "02", "2101"] + some_words(37, 4, 3, 6)
            for one in listed:
                for other in listed:
                    told = odd_walls(slow, one) ^ odd_walls(slow, other)
                    found = walls.parting(orders, one, other)
                    self.assertEqual(found, sorted(told, key=rank))
                    self.assertEqual(len(found), slow.distance(one, other))
                    for wall in some_walls(slow)[:9] + found:
                        if len(wall) <= 60:
                            parts = slow.normal(wall) in told
                            self.assertIs(walls.sides_between(orders, wall, one, other), parts)

    def test_three_tiles(self):
        for orders in ALL:
            one, two, three = some_words(38, 3, 20, 30)
            first = set(walls.parting(orders, one, two))
            second = set(walls.parting(orders, two, three))
            self.assertEqual(first ^ second, set(walls.parting(orders, one, three)))

    def test_order_of_parting(self):
        self.assertEqual(walls.parting((3, 3, 3), "", "01"), ["0", "010"])
        self.assertEqual(walls.parting((3, 3, 3), "2", "1"), ["1", "2"])
        self.assertEqual(walls.parting((3, 3, 3), "12", "12"), [])
        self.assertEqual(walls.parting((0, 0, 0), "012", "2"), ["0", "2", "010", "01210"])

    def test_walls_of_far_tiles(self):
        word = "012" * 20
        found = walls.parting((0, 0, 0), word, "")
        self.assertEqual(found, [word[:k] + word[k] + word[:k][::-1] for k in range(60)])
        self.assertEqual(len(walls.parting((3, 7, 2), word, word[::-1])),
                         len(Tiles((3, 7, 2)).normal(word[::-1] + word[::-1])))

    def test_no_walls(self):
        calls = [lambda orders, wall, word: walls.is_near(orders, wall, word),
                 lambda orders, wall, word: walls.mirrored(orders, wall, word),
                 lambda orders, wall, word: walls.sides_between(orders, wall, word, "0"),
                 lambda orders, wall, word: walls.sides_between(orders, wall, "0", word),
                 lambda orders, wall, word: walls.wall_moved(orders, word, wall)]
        for call in calls:
            for wall in NO_WALLS:
                with self.assertRaises(NoAnswer):
                    call((3, 3, 3), wall, "01")
                for wrong in ("3", "0" * 61):
                    with self.assertRaises(NotWord):
                        call((3, 3, 3), wall, wrong)
                    with self.assertRaises(NotWord):
                        call((3, 3, 3), wrong, "01")
                    with self.assertRaises(NotOrders):
                        call((3, 3, 1), wall, wrong)
        for wrong in ("3", "0" * 61):
            with self.assertRaises(NotWord):
                walls.parting((3, 3, 3), wrong, "")
            with self.assertRaises(NotWord):
                walls.parting((3, 3, 3), "", wrong)
            with self.assertRaises(NotOrders):
                walls.parting((3, 3, 14), "", wrong)


class Moved(unittest.TestCase):
    def test_walls_go_to_walls(self):
        for orders in FLOORS:
            slow = Reference(orders)
            for motion in ["", "0", "12", "2012"] + some_words(39, 2, 4, 6):
                for wall in some_walls(slow):
                    there = walls.wall_moved(orders, motion, wall)
                    self.assertEqual(there, slow.normal(motion + wall + motion[::-1]))
                    self.assertIs(walls.is_mirror(orders, there), True)
                    self.assertEqual(walls.mirrored(orders, there, motion),
                                     slow.normal(motion + wall))

    def test_long_results(self):
        word = "012" * 20
        self.assertEqual(walls.wall_moved((0, 0, 0), word, "0"), word + "0" + word[::-1])
        wall = word[:29] + "2" + word[:29][::-1]
        self.assertEqual(walls.wall_moved((0, 0, 0), "02", wall), "02" + wall + "20")
        self.assertEqual(walls.mirrored((0, 0, 0), wall, word[::-1]), wall + word[::-1])


if __name__ == "__main__":
    unittest.main()
