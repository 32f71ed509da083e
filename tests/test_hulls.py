"""Promises [80] to [83]: walls that part tiles, hulls, convex sets and gates."""

import random
import unittest

from foldfloor import hulls
from foldfloor.errors import BadNumber, NoAnswer, NotOrders, NotWord, TooLarge
from foldfloor.polygons import is_polygon
from foldfloor.rings import around, ball
from foldfloor.walls import sides_between
from foldfloor.ways import between
from tests.reference import ALL, LETTERS, Reference, order_of, rank
from tests.test_polygons import WRONG_ORDERS
from tests.test_words import some_words

CALLS = (hulls.parting_all, hulls.hull, hulls.is_convex, hulls.hull_polygon)

CORNERS = [("0", "1"), ("0", "2"), ("1", "2")]


def slow_walls(slow, one, other):
    """The walls that a shortest way between two tiles crosses."""
    way = slow.normal(one[::-1] + other)
    found = set()
    for at, letter in enumerate(way):
        tile = one + way[:at]
        found.add(slow.normal(tile + letter + tile[::-1]))
    return found


def slow_between(slow, one, other):
    """The tiles on the shortest ways from one tile to another one."""
    found = [slow.normal(one)]
    for tile in found:
        for letter in LETTERS:
            there = slow.normal(tile + letter)
            if there not in found and slow.distance(there, other) < slow.distance(tile, other):
                found.append(there)
    return found


def slow_hull(slow, words):
    """The least set with all tiles on the shortest ways between its tiles."""
    found = sorted({slow.normal(word) for word in words}, key=rank)
    for at, one in enumerate(found):
        for other in found[:at]:
            for tile in slow_between(slow, one, other):
                if tile not in found:
                    found.append(tile)
    return sorted(found, key=rank)


def some_lists(orders, seed):
    """Lists of words, among them words of one tile."""
    source = random.Random(seed)
    listed = some_words(seed, 6, 0, 5)
    return [listed[:1], listed[:1] * 3, listed[1:3], listed[2:5], listed[3:],
            [listed[4] + "00", listed[4], source.choice(LETTERS)]]


class Walls(unittest.TestCase):
    def test_against_search(self):
        for orders in ALL:
            slow = Reference(orders)
            for words in some_lists(orders, 5) + [some_words(7, 12, 0, 9)]:
                told = set()
                for one in words:
                    for other in words:
                        told |= slow_walls(slow, one, other)
                found = hulls.parting_all(orders, words)
                self.assertEqual(found, sorted(told, key=rank))

    def test_each_wall_parts_two_tiles(self):
        for orders in ((3, 3, 3), (2, 3, 5), (3, 7, 2), (0, 3, 2)):
            words = some_words(11, 5, 0, 7)
            for wall in hulls.parting_all(orders, words):
                self.assertTrue(any(sides_between(orders, wall, words[0], word) for word in words))

    def test_one_tile(self):
        for orders in ALL:
            self.assertEqual(hulls.parting_all(orders, ["01", "0122", "1101"]), [])

    def test_example(self):
        self.assertEqual(hulls.parting_all((3, 3, 3), ["", "01"]), ["0", "010"])
        self.assertEqual(hulls.hull((3, 3, 3), ["", "01"]), ["", "0", "01"])
        self.assertEqual(hulls.gate((3, 3, 3), "2", "", ("0", "1")), "")

    def test_many_far_tiles(self):
        words = some_words(3, 60, 60, 60)
        found = hulls.parting_all((0, 0, 0), words)
        self.assertEqual(found, sorted(set(found), key=rank))
        self.assertTrue(max(map(len, found)) > 60)


class Hulls(unittest.TestCase):
    def test_against_search(self):
        for orders in ALL:
            slow = Reference(orders)
            for words in some_lists(orders, 9):
                told = slow_hull(slow, words)
                self.assertEqual(hulls.hull(orders, words), told, (orders, words))
                given = {slow.normal(word) for word in words}
                self.assertIs(hulls.is_convex(orders, words), len(given) == len(told))
                if len(told) <= 60:
                    self.assertIs(hulls.is_convex(orders, told), True)
                    polygon = hulls.hull_polygon(orders, words)
                    self.assertEqual(polygon, (orders, tuple(told)))
                    self.assertIs(is_polygon(polygon), True)

    def test_hull_of_the_hull(self):
        for orders in ALL:
            for words in some_lists(orders, 13):
                found = hulls.hull(orders, words)
                if len(found) <= 60:
                    self.assertEqual(hulls.hull(orders, found[::-1]), found)
                    self.assertIs(hulls.is_convex(orders, found), True)
                fewer = hulls.hull(orders, words[:2])
                self.assertTrue(set(fewer) <= set(found))

    def test_moved(self):
        for orders in ALL:
            slow = Reference(orders)
            for words in some_lists(orders, 17):
                for motion in ("1", "2102"):
                    told = {slow.normal(motion + tile) for tile in hulls.hull(orders, words)}
                    found = hulls.hull(orders, [motion + word for word in words])
                    self.assertEqual(found, sorted(told, key=rank))

    def test_two_tiles(self):
        for orders in ALL:
            listed = some_words(19, 8, 0, 8)
            for one, other in zip(listed, listed[1:]):
                told = between(orders, one, other)
                if len(told) <= 200:
                    self.assertEqual(hulls.hull(orders, [one, other]), told)

    def test_convex(self):
        for orders, words, told in (
                ((3, 3, 3), ["", "0"], True), ((3, 3, 3), ["", "01"], False),
                ((3, 3, 3), ["", "0", "01"], True), ((3, 3, 3), ["", "0", "01", "010"], False),
                ((3, 3, 3), around((3, 3, 3), "", "0", "1"), True), ((3, 3, 3), [""] * 60, True),
                ((3, 3, 3), ["", "0", "1", "01", "10"], False), ((3, 3, 2), ["0", "2"], False),
                ((3, 3, 2), ["", "0", "2"], False), ((3, 3, 2), ["", "0", "20", "2"], True),
                ((0, 3, 2), ["0", "01", "00", "011"], True), ((0, 0, 0), ["0", "", "1", "2"], True),
                ((3, 3, 2), ball((3, 3, 2), 6), True), ((3, 3, 2), ball((3, 3, 2), 5), False)):
            self.assertIs(hulls.is_convex(orders, words), told, (orders, words))

    def test_opposite_tiles_of_a_round_floor(self):
        for orders in ((3, 3, 2), (3, 4, 2), (2, 2, 2), (2, 3, 5)):
            whole = ball(orders, 15)
            self.assertEqual(hulls.hull(orders, ["", whole[-1]]), whole)
            self.assertEqual(hulls.hull(orders, [whole[-1], ""]), whole)


class Limits(unittest.TestCase):
    def test_errors_in_their_order(self):
        many = [""] * 61
        for call in CALLS:
            with self.assertRaises(NoAnswer):
                call((3, 3, 3), [])
            with self.assertRaises(TooLarge):
                call((3, 3, 3), many)
            self.assertIsNotNone(call((3, 3, 3), many[:60]))
            for wrong in ("3", "0" * 61, "a"):
                with self.assertRaises(NotWord):
                    call((3, 3, 3), [wrong])
                with self.assertRaises(NotWord):
                    call((3, 3, 3), many + [wrong])
            for orders in WRONG_ORDERS:
                for words in ([], many, ["3"], ["0"]):
                    with self.assertRaises(NotOrders):
                        call(orders, words)

    def test_two_hundred_tiles(self):
        # A way of a floor without corners has one tile more than its letters.
        path = ("012" * 20)[:60]
        met = {}
        for many in range(20, 60):
            for orders in ((3, 3, 3), (4, 4, 2), (2, 4, 4)):
                told = between(orders, "", ("0120" * 20)[:many])
                met.setdefault(len(told), (orders, many))
                for call in (hulls.hull, hulls.is_convex):
                    if len(told) > 200:
                        with self.assertRaises(TooLarge):
                            call(orders, ["", ("0120" * 20)[:many]])
                    else:
                        call(orders, ["", ("0120" * 20)[:many]])
        words = [path[::-1], path, path[1:]]
        self.assertEqual(len(hulls.hull((0, 0, 0), ["", path])), 61)
        self.assertEqual(len(hulls.hull((0, 0, 0), words)), 180)

    def test_exactly_two_hundred_tiles(self):
        path = ("012" * 20)[:60]
        ways = [path, ("12" * 30)[:60], ("201" * 20)[:60]]
        for last in (18, 19, 20, 21):
            words = ways + [ways[0][:30] + ("12" * 20)[:last]]
            told = 181 + last
            found = {slow for word in words for slow in prefixes(word)}
            self.assertEqual(len(found), told)
            for call in (hulls.hull, hulls.is_convex):
                if told > 200:
                    with self.assertRaises(TooLarge):
                        call((0, 0, 0), words)
            if told <= 200:
                self.assertEqual(hulls.hull((0, 0, 0), words), sorted(found, key=rank))
                self.assertIs(hulls.is_convex((0, 0, 0), words), False)

    def test_sixty_tiles_of_a_polygon(self):
        path = ("012" * 20)[:60]
        self.assertEqual(hulls.hull_polygon((0, 0, 0), ["", path[:59]])[1], tuple(prefixes(path[:59])))
        self.assertEqual(hulls.hull_polygon((0, 0, 0), [path[:1], path])[1], tuple(prefixes(path)[1:]))
        with self.assertRaises(TooLarge):
            hulls.hull_polygon((0, 0, 0), ["", path])

    def test_sixty_letters_of_a_polygon(self):
        # A square around a corner whose longest tile is beyond both given ones.
        orders = (2, 2, 0)
        path = ("02" * 30)[:60]
        self.assertEqual(hulls.hull(orders, [path, "1" + path[:59]])[-1], path[:1] + "1" + path[1:])
        with self.assertRaises(TooLarge):
            hulls.hull_polygon(orders, [path, "1" + path[:59]])
        found = hulls.hull_polygon(orders, [path[:59], "1" + path[:58]])
        self.assertEqual(len(found[1]), 4)
        self.assertEqual(len(found[1][-1]), 60)

    def test_lists_stay_as_they_are(self):
        for call in CALLS:
            words = ["01", "2", "2", ""]
            call((3, 3, 3), words)
            self.assertEqual(words, ["01", "2", "2", ""])


def prefixes(word):
    return [word[:many] for many in range(len(word) + 1)]


class Gates(unittest.TestCase):
    def around(self, slow, tile, corner, most):
        """The tiles around a corner, or those near its tile if there are infinitely many."""
        order = order_of(slow.orders, *corner)
        one, other = corner
        many = order if order else most
        words = [(one + other) * many, (other + one) * many]
        return {slow.normal(tile + word[:at]) for word in words for at in range(many + 1)}

    def test_against_search(self):
        for orders in ALL:
            slow = Reference(orders)
            listed = some_words(23, 9, 0, 5)
            for word, tile in zip(listed, listed[3:] + listed[:3]):
                for corner in CORNERS:
                    found = hulls.gate(orders, word, tile, corner)
                    tiles = self.around(slow, tile, corner, 12)
                    nearest = min(slow.distance(word, other) for other in tiles)
                    self.assertEqual([found], [other for other in tiles
                                               if slow.distance(word, other) == nearest])
                    for other in tiles:
                        self.assertEqual(slow.distance(word, other),
                                         nearest + slow.distance(found, other))

    def test_order_zero(self):
        for many in range(1, 25):
            tile = "2" + ("01" * 30)[:many]
            self.assertEqual(hulls.gate((0, 3, 3), "", tile, ("0", "1")), "2")
            self.assertEqual(hulls.gate((0, 3, 3), "2", tile, ("0", "1")), "2")
            self.assertEqual(hulls.gate((0, 3, 3), tile, "", ("0", "1")), "")
            self.assertEqual(hulls.gate((0, 3, 3), tile + "0011", tile, ("0", "1")), tile)

    def test_far_tiles(self):
        path = ("012" * 20)[:60]
        self.assertEqual(hulls.gate((0, 0, 0), path, path[::-1], ("0", "1")), path[:1:-1])
        self.assertEqual(hulls.gate((0, 0, 0), path, path[::-1], ("1", "2")), path[::-1])
        self.assertEqual(hulls.gate((0, 0, 0), path, "", ("0", "1")), "01")

    def test_errors_in_their_order(self):
        for corner in (("1", "0"), ("2", "1"), ("0", "0"), ("0",), (), ("0", "1", "2"), ("0", "3"),
                       ("01",), ("", "0")):
            with self.assertRaises(BadNumber):
                hulls.gate((3, 3, 3), "", "", corner)
            for word, tile in (("3", ""), ("", "3"), ("0" * 61, ""), ("", "0" * 61)):
                with self.assertRaises(NotWord):
                    hulls.gate((3, 3, 3), word, tile, corner)
                for orders in WRONG_ORDERS:
                    with self.assertRaises(NotOrders):
                        hulls.gate(orders, word, tile, corner)


if __name__ == "__main__":
    unittest.main()
