"""Promises [60], [61], [66] and [67]: polygons, their sides, growing and moving."""

import random
import unittest

from foldfloor import polygons
from foldfloor.errors import NotOrders, NotPolygon, NotWord, TooLarge
from foldfloor.rings import ball, ring
from foldfloor.words import Tiles
from tests.reference import ALL, LETTERS, Reference, all_words, rank

WRONG_ORDERS = [(3, 3), (3, 3, 1), (13, 3, 3), (3, 3, -1), (3, 3, 3, 3), ()]


def some_polygon(orders, many, seed):
    """A polygon that grows by tiles beyond its sides."""
    source = random.Random(seed)
    floor = Tiles(orders)
    tiles = [floor.normal("".join(source.choice(LETTERS) for _ in range(source.randint(0, 6))))]
    for _ in range(20 * many):
        if len(tiles) == many:
            break
        there = floor.beyond(source.choice(tiles), source.choice(LETTERS))
        if there not in tiles:
            tiles.append(there)
    return orders, tuple(sorted(tiles, key=rank))


def some_polygons():
    return [some_polygon(orders, many, seed) for orders in ALL
            for seed, many in enumerate((1, 2, 5, 12))]


def slow_sides(slow, polygon):
    """The border sides, and the inner sides with the earlier one of their tiles."""
    tiles = polygon[1]
    border, inner = [], []
    for at, tile in enumerate(tiles):
        for letter in LETTERS:
            there = slow.normal(tile + letter)
            if there not in tiles:
                border.append((tile, letter))
            elif tiles.index(there) > at:
                inner.append((tile, letter))
    return border, inner


class Conditions(unittest.TestCase):
    def check(self, polygon, told):
        self.assertIs(polygons.is_polygon(polygon), told, polygon)
        if told:
            self.assertIsNone(polygons.check_polygon(polygon))
            return
        for call in (polygons.check_polygon, polygons.border_sides, polygons.inner_sides,
                     polygons.grown):
            with self.assertRaises(NotPolygon):
                call(polygon)
        for call in (polygons.contains, polygons.moved):
            for word in ("", "3", "0" * 61):
                with self.assertRaises(NotPolygon):
                    call(polygon, word)

    def test_polygons(self):
        for polygon in some_polygons():
            self.check(polygon, True)
        for tiles in (("",), ("0",), ("", "0"), ("0", "01"), ("", "1", "12"), ("1", "10", "010"),
                      ("", "0", "1", "2"), ("012012",)):
            self.check(((3, 3, 3), tiles), True)

    def test_all_sets_of_few_tiles(self):
        for orders in ((3, 3, 3), (3, 2, 4), (0, 3, 2)):
            slow = Reference(orders)
            listed = all_words(2)
            for one in listed:
                self.check((orders, (one,)), slow.normal(one) == one)
                for other in listed:
                    right = slow.normal(one) == one and slow.normal(other) == other
                    right = right and rank(one) < rank(other) and slow.distance(one, other) == 1
                    self.check((orders, (one, other)), right)

    def test_number_of_tiles(self):
        self.check(((3, 3, 3), ()), False)
        tiles = ball((3, 3, 3), 6)
        self.assertEqual(len(tiles), 64)
        self.check(((3, 3, 3), tuple(tiles[:60])), True)
        self.check(((3, 3, 3), tuple(tiles[:61])), False)
        self.check(((3, 3, 3), tuple(tiles)), False)
        self.check(((3, 4, 2), tuple(ball((3, 4, 2), 9))), True)

    def test_words(self):
        for tiles in (("00",), ("", "00"), ("3",), ("", "a"), ("101",), ("1", "10", "101"),
                      ("0" * 61,), ("", "0", "0"), ("", ""), ("0", ""), ("", "1", "0"),
                      ("", "0", "01", "1"), ("", "01", "0")):
            self.check(((3, 3, 3), tiles), False)
        self.check(((3, 3, 2), ("", "2", "20")), False)
        self.check(((3, 3, 2), ("", "2", "02")), True)
        long = "012" * 20
        self.check(((0, 0, 0), (long,)), True)
        self.check(((0, 0, 0), (long, long + "0")), False)
        self.check(((0, 0, 0), (long + "0",)), False)

    def test_joined(self):
        self.check(((3, 3, 3), ("", "01")), False)
        self.check(((3, 3, 3), ("0", "1")), False)
        self.check(((3, 3, 3), ("", "0", "2", "12")), False)
        self.check(((3, 3, 3), ("", "0", "01", "12", "121")), False)
        self.check(((3, 3, 3), tuple(ring((3, 3, 3), 2))), False)
        # Around a corner and back to the first side, without the first tile.
        self.check(((3, 3, 3), ("0", "1", "01", "10", "010")), True)
        self.check(((2, 3, 3), ("0", "1", "01")), True)
        self.check(((3, 3, 3), tuple(ball((3, 3, 3), 2)[1:])), False)

    def test_orders(self):
        for orders in WRONG_ORDERS:
            self.check((orders, ("",)), False)
            self.check((orders, ()), False)

    def test_pairs_alone(self):
        for wrong in ((), ((3, 3, 3),), ((3, 3, 3), ("",), ("",))):
            self.check(wrong, False)

    def test_holes(self):
        tiles = ball((3, 3, 3), 4)
        self.check(((3, 3, 3), tuple(tiles[1:])), True)


class Made(unittest.TestCase):
    def test_words_of_the_same_tile(self):
        self.assertEqual(polygons.polygon_of((3, 3, 2), ["20", "", "02", "2", "0", "00"]),
                         ((3, 3, 2), ("", "0", "2", "02")))
        self.assertEqual(polygons.polygon_of((3, 3, 3), ["101"]), ((3, 3, 3), ("010",)))
        self.assertEqual(polygons.polygon_of((3, 3, 3), ["0"] * 100), ((3, 3, 3), ("0",)))

    def test_against_search(self):
        for polygon in some_polygons():
            orders, tiles = polygon
            other = [tile + "11" for tile in tiles[::-1]] + list(tiles) + ["22" + tiles[0]]
            kept = list(other)
            self.assertEqual(polygons.polygon_of(orders, other), polygon)
            self.assertEqual(other, kept)

    def test_errors_in_their_order(self):
        joined = ball((3, 3, 3), 6)
        self.assertEqual(polygons.polygon_of((3, 3, 3), joined[:60][::-1])[1], tuple(joined[:60]))
        for words in ([], joined[:61], ["", "01"], ["0", "0", "1"]):
            with self.assertRaises(NotPolygon):
                polygons.polygon_of((3, 3, 3), words)
            for wrong in ("3", "0" * 61):
                with self.assertRaises(NotWord):
                    polygons.polygon_of((3, 3, 3), words + [wrong])
            for orders in WRONG_ORDERS:
                with self.assertRaises(NotOrders):
                    polygons.polygon_of(orders, words + ["3"])

    def test_contains(self):
        for polygon in some_polygons():
            slow = Reference(polygon[0])
            for word in all_words(3):
                told = slow.normal(word) in polygon[1]
                self.assertIs(polygons.contains(polygon, word), told)
        polygon = ((3, 3, 3), ("", "0"))
        for wrong in ("3", "0" * 61):
            with self.assertRaises(NotWord):
                polygons.contains(polygon, wrong)
        self.assertIs(polygons.contains(polygon, "0" * 60), True)


class Sides(unittest.TestCase):
    def test_against_search(self):
        for polygon in some_polygons():
            border, inner = slow_sides(Reference(polygon[0]), polygon)
            self.assertEqual(polygons.border_sides(polygon), border)
            self.assertEqual(polygons.inner_sides(polygon), inner)
            self.assertEqual(len(border) + 2 * len(inner), 3 * len(polygon[1]))

    def test_example(self):
        polygon = ((2, 4, 4), ("", "0"))
        self.assertEqual(polygons.border_sides(polygon),
                         [("", "1"), ("", "2"), ("0", "1"), ("0", "2")])
        self.assertEqual(polygons.inner_sides(polygon), [("", "0")])

    def test_a_ring_around_a_corner(self):
        polygon = polygons.polygon_of((3, 3, 3), ["", "0", "01", "010", "10", "1"])
        self.assertEqual(polygons.border_sides(polygon), [(tile, "2") for tile in polygon[1]])
        self.assertEqual(polygons.inner_sides(polygon),
                         [("", "0"), ("", "1"), ("0", "1"), ("1", "0"), ("01", "0"), ("10", "1")])

    def test_whole_floor(self):
        polygon = ((3, 3, 2), tuple(ball((3, 3, 2), 6)))
        self.assertEqual(polygons.border_sides(polygon), [])
        self.assertEqual(len(polygons.inner_sides(polygon)), 36)

    def test_lists_are_not_shared(self):
        polygon = ((2, 4, 4), ("", "0"))
        polygons.border_sides(polygon).clear()
        polygons.inner_sides(polygon).clear()
        self.assertEqual(len(polygons.border_sides(polygon)), 4)
        self.assertEqual(len(polygons.inner_sides(polygon)), 1)


class Changed(unittest.TestCase):
    def test_grown(self):
        for polygon in some_polygons():
            slow = Reference(polygon[0])
            told = {slow.normal(tile + x) for tile in polygon[1] for x in ("",) + tuple(LETTERS)}
            found = polygons.grown(polygon)
            self.assertEqual(found, (polygon[0], tuple(sorted(told, key=rank))))
            self.assertIs(polygons.is_polygon(found), True)

    def test_grown_balls(self):
        polygon = ((3, 3, 3), ("",))
        for n in range(1, 6):
            polygon = polygons.grown(polygon)
            self.assertEqual(polygon[1], tuple(ball((3, 3, 3), n)))
        with self.assertRaises(TooLarge):
            polygons.grown(polygon)
        whole = ((3, 3, 2), tuple(ball((3, 3, 2), 6)))
        self.assertEqual(polygons.grown(whole), whole)

    def test_sixty_tiles_at_most(self):
        met = set()
        for orders in ((0, 0, 0), (3, 3, 3), (0, 2, 5)):
            floor = Tiles(orders)
            for seed in range(24):
                polygon = some_polygon(orders, 28 + seed // 2, seed % 2)
                told = {floor.beyond(tile, x) for tile in polygon[1] for x in LETTERS}
                told.update(polygon[1])
                met.add(len(told))
                if len(told) <= 60:
                    self.assertEqual(set(polygons.grown(polygon)[1]), told)
                else:
                    with self.assertRaises(TooLarge):
                        polygons.grown(polygon)
        self.assertTrue(met.issuperset([60, 61]))

    def test_sixty_letters_at_most(self):
        word = "012" * 20
        with self.assertRaises(TooLarge):
            polygons.grown(((0, 0, 0), (word,)))
        self.assertEqual(polygons.grown(((0, 0, 0), (word[:59],)))[1],
                         (word[:58], word[:59], word[:59] + "0", word))
        polygon = ((0, 0, 0), ("", "0"))
        with self.assertRaises(TooLarge):
            polygons.moved(polygon, word)
        self.assertEqual(polygons.moved(polygon, word[:59])[1], (word[:59], word[:59] + "0"))
        self.assertEqual(polygons.moved(((0, 0, 0), (word,)), word[::-1])[1], ("",))
        self.assertEqual(polygons.moved(((0, 0, 0), ("",)), word)[1], (word,))

    def test_moved(self):
        for polygon in some_polygons():
            slow = Reference(polygon[0])
            for word in ("", "0", "21", "10212"):
                told = sorted([slow.normal(word + tile) for tile in polygon[1]], key=rank)
                found = polygons.moved(polygon, word)
                self.assertEqual(found, (polygon[0], tuple(told)))
                self.assertEqual(len(polygons.border_sides(found)),
                                 len(polygons.border_sides(polygon)))
                self.assertEqual(polygons.moved(found, word[::-1]), polygon)
        for wrong in ("3", "0" * 61):
            with self.assertRaises(NotWord):
                polygons.moved(((3, 3, 3), ("",)), wrong)


if __name__ == "__main__":
    unittest.main()
