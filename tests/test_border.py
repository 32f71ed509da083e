"""Promises [62] to [67]: the border of a polygon, its corners, angles, area and Euler number."""

import unittest
from fractions import Fraction

from foldfloor import border
from foldfloor.errors import BadNumber, NoAnswer, NotOrders, NotPolygon
from foldfloor.polygons import border_sides, moved, polygon_of
from foldfloor.rings import around, ball
from tests.reference import ALL, LETTERS, Reference, order_of, rank
from tests.test_polygons import WRONG_ORDERS, slow_sides, some_polygons

CORNERS = [("0", "1"), ("0", "2"), ("1", "2")]

NOT_POLYGONS = [((3, 3, 3), ()), ((3, 3, 3), ("", "01")), ((3, 3, 3), ("0", "")), ((3, 3, 3), ("3",)),
                ((3, 3), ("",)), ((3, 3, 1), ("",)), ((3, 3, 3), ("00",))]


def special_polygons():
    """Polygons with holes, with fans that go nearly around an order, and that touch themselves."""
    found = []
    for orders in ((3, 3, 3), (2, 4, 4), (3, 7, 2), (0, 3, 2), (4, 3, 3)):
        found.append((orders, tuple(ball(orders, 4)[1:])))
        for left in range(3):
            found.append((orders, tuple(ball(orders, 3)[:len(ball(orders, 3)) - left])))
    for orders in ((3, 3, 3), (12, 2, 3), (3, 4, 2), (4, 4, 2), (5, 4, 7)):
        whole = around(orders, "2", "0", "1")
        for many in range(1, len(whole) + 1):
            found.append(polygon_of(orders, whole[:many]))
    # Two holes that meet at a corner are one circle, with two fans at this corner.
    for skipped in (("", "010"), ("", "01"), ("0", "10"), ("", "010", "012"), ("", "12", "102")):
        found.append(((3, 3, 3), tuple(tile for tile in ball((3, 3, 3), 6)[:60] if tile not in skipped)))
    for skipped in (("", "01"), ("0", "1"), ("", "010")):
        found.append(((3, 4, 2), tuple(tile for tile in ball((3, 4, 2), 9) if tile not in skipped)))
    for orders in ((2, 2, 2), (3, 3, 2), (3, 4, 2)):
        whole = ball(orders, 9)
        found.append((orders, tuple(whole)))
        found.append((orders, tuple(whole[:-1])))
        found.append((orders, tuple(whole[1:])))
        # What is left between two far tiles of a round floor is a ring.
        found.append((orders, tuple(whole[1:-1])))
    found.append(((0, 0, 0), tuple(ball((0, 0, 0), 3))))
    return found


class Slow:
    """The border of a polygon by its definitions, with tiles found by turns and cuts."""

    def __init__(self, polygon):
        self.orders, self.tiles = polygon
        self.slow = Reference(self.orders)
        self.inside = set(self.tiles)
        self.sides, self.inner = slow_sides(self.slow, polygon)

    def beyond(self, tile, letter):
        return self.slow.normal(tile + letter)

    def fan(self, tile, one, other):
        """The tiles of the polygon to which words of two letters lead without leaving it."""
        found = [tile]
        for at in found:
            for letter in (one, other):
                there = self.beyond(at, letter)
                if there in self.inside and there not in found:
                    found.append(there)
        return found

    def fans(self):
        """All fans, each a pair of a corner and a set of tiles."""
        return {(pair, frozenset(self.fan(tile, *pair))) for tile in self.tiles for pair in CORNERS}

    def passage(self, side, letter):
        tile, last = side
        corner = tuple(sorted((last, letter)))
        number = len(self.fan(tile, *corner))
        while self.beyond(tile, letter) in self.inside:
            tile = self.beyond(tile, letter)
            letter, last = last, letter
        return (tile, letter), (corner, number)

    def circles(self):
        left = list(self.sides)
        found = []
        while left:
            circle, corners = [], []
            side = left[0]
            letter = min(other for other in LETTERS if other != side[1])
            start = side, letter
            while not circle or (side, letter) != start:
                circle.append(side)
                side, passed = self.passage(side, letter)
                corners.append(passed)
                letter = ({"0", "1", "2"} - set(passed[0])).pop()
            found.append((circle, corners))
            left = [other for other in left if other not in circle]
        return found

    def euler_number(self):
        return len(self.fans()) - len(self.sides) - len(self.inner) + len(self.tiles)


def slow_angle(orders, passed):
    order = order_of(orders, *passed[0])
    return Fraction(passed[1], order) if order else Fraction(0)


def slow_area(orders):
    return 1 - sum(Fraction(1, order) for order in orders if order)


def all_polygons():
    return some_polygons() + special_polygons()


class Passages(unittest.TestCase):
    def test_against_search(self):
        for polygon in all_polygons():
            slow = Slow(polygon)
            for side in slow.sides:
                for letter in LETTERS:
                    if letter != side[1]:
                        self.assertEqual(border.passage(polygon, side, letter),
                                         slow.passage(side, letter), (polygon, side, letter))

    def test_fans_around_an_order(self):
        # One tile is left out of those around a corner: the fan is all the others.
        for orders in ((3, 3, 3), (12, 2, 3), (3, 4, 2), (2, 0, 0)):
            tiles = around(orders, "", "0", "1")
            polygon = polygon_of(orders, tiles[:-1])
            found = border.passage(polygon, ("", "1"), "0")
            self.assertEqual(found, ((tiles[-2], "0"), (("0", "1"), 2 * orders[0] - 1)))
            self.assertEqual(border.passage(polygon, found[0], "1"), (("", "1"), found[1]))

    def test_order_zero(self):
        polygon = polygon_of((0, 3, 0), ["0101", "010", "01", "0", "", "1", "10"])
        self.assertEqual(border.passage(polygon, ("10", "1"), "0"), (("0101", "0"), (("0", "1"), 7)))
        self.assertEqual(border.passage(polygon, ("0101", "0"), "1"), (("10", "1"), (("0", "1"), 7)))
        self.assertEqual(border.passage(polygon, ("0101", "2"), "0"), (("0101", "0"), (("0", "2"), 1)))

    def test_one_tile(self):
        for orders in ALL:
            for side in LETTERS:
                for letter in LETTERS:
                    if side != letter:
                        told = (("", letter), (tuple(sorted((side, letter))), 1))
                        self.assertEqual(border.passage((orders, ("",)), ("", side), letter), told)

    def test_back_again(self):
        for polygon in all_polygons()[::3]:
            for side in border_sides(polygon)[::2]:
                for letter in LETTERS:
                    if letter != side[1]:
                        there, passed = border.passage(polygon, side, letter)
                        back = [other for other in passed[0] if other != there[1]][0]
                        self.assertEqual(border.passage(polygon, there, back), (side, passed))

    def test_errors_in_their_order(self):
        polygon = ((2, 4, 4), ("", "0"))
        for letter in ("1", "3", "", "01", "02"):
            with self.assertRaises(BadNumber):
                border.passage(polygon, ("", "1"), letter)
        for letter in ("0", "1", "3"):
            for side in (("", "0"), ("0", "0"), ("1", "0"), ("00", "1"), ("", "3"), ("", ""),
                         ("3", "1"), ("02", "1"), ("", "12")):
                with self.assertRaises(NoAnswer):
                    border.passage(polygon, side, letter)
                for wrong in NOT_POLYGONS:
                    with self.assertRaises(NotPolygon):
                        border.passage(wrong, side, letter)
        with self.assertRaises(NoAnswer):
            border.passage(((3, 3, 2), tuple(ball((3, 3, 2), 6))), ("", "0"), "1")


class Circles(unittest.TestCase):
    def test_against_search(self):
        for polygon in all_polygons():
            told = Slow(polygon).circles()
            self.assertEqual(border.circles(polygon), [sides for sides, _ in told], polygon)
            self.assertEqual(border.border_corners(polygon),
                             [passed for _, corners in told for passed in corners], polygon)
            self.assertIs(border.is_disc(polygon), len(told) == 1)

    def test_each_side_once(self):
        for polygon in all_polygons():
            sides = [side for circle in border.circles(polygon) for side in circle]
            self.assertEqual(sorted(sides), sorted(border_sides(polygon)))
            firsts = [circle[0] for circle in border.circles(polygon)]
            place = {side: at for at, side in enumerate(border_sides(polygon))}
            self.assertEqual(firsts, sorted(firsts, key=place.get))
            for circle in border.circles(polygon):
                self.assertEqual(circle[0], min(circle, key=place.get))

    def test_first_corner_of_a_circle(self):
        # A tile of its own: from the side 0 over its corner with 1, not with 2.
        for orders in ALL:
            self.assertEqual(border.circles((orders, ("",))), [[("", "0"), ("", "1"), ("", "2")]])
            self.assertEqual(border.border_corners((orders, ("",))),
                             [(("0", "1"), 1), (("1", "2"), 1), (("0", "2"), 1)])

    def test_a_hole(self):
        polygon = ((3, 3, 3), tuple(ball((3, 3, 3), 4)[1:]))
        found = border.circles(polygon)
        self.assertEqual(len(found), 2)
        self.assertEqual(found[0], [("0", "0"), ("1", "1"), ("2", "2")])
        self.assertEqual(border.border_corners(polygon)[:3],
                         [(("0", "1"), 5), (("1", "2"), 5), (("0", "2"), 5)])
        self.assertIs(border.is_disc(polygon), False)
        self.assertEqual(border.euler_number(polygon), 0)

    def test_several_holes(self):
        whole = ball((3, 3, 3), 6)[:60]
        for skipped, many in ((("", "012"), 3), (("", "012", "102"), 4), (("", "010"), 2)):
            polygon = ((3, 3, 3), tuple(tile for tile in whole if tile not in skipped))
            self.assertEqual(len(border.circles(polygon)), many)
            self.assertEqual(border.euler_number(polygon), 2 - many)

    def test_two_fans_at_one_corner(self):
        polygon = ((3, 3, 3), tuple(tile for tile in ball((3, 3, 3), 6)[:60] if tile not in ("", "010")))
        self.assertEqual(border.circles(polygon)[0],
                         [("0", "0"), ("01", "0"), ("0102", "2"), ("10", "1"), ("1", "1"), ("2", "2")])
        self.assertEqual(border.border_corners(polygon)[:6],
                         [(("0", "1"), 2), (("0", "2"), 5), (("1", "2"), 5), (("0", "1"), 2),
                          (("1", "2"), 5), (("0", "2"), 5)])

    def test_whole_round_floors(self):
        for orders in ((2, 2, 2), (3, 3, 2), (3, 4, 2), (2, 5, 2)):
            polygon = (orders, tuple(ball(orders, 12)))
            self.assertEqual(border.circles(polygon), [])
            self.assertEqual(border.border_corners(polygon), [])
            self.assertEqual(border.euler_number(polygon), 2)
            self.assertIs(border.is_disc(polygon), False)

    def test_lists_are_not_shared(self):
        polygon = ((2, 4, 4), ("", "0"))
        border.circles(polygon)[0].clear()
        border.border_corners(polygon).clear()
        self.assertEqual([len(circle) for circle in border.circles(polygon)], [4])
        self.assertEqual(len(border.border_corners(polygon)), 4)


class Numbers(unittest.TestCase):
    def check_fraction(self, found, told):
        self.assertEqual(found, (told.numerator, told.denominator))
        self.assertEqual([int, int], [type(part) for part in found])

    def test_angles(self):
        for orders in ALL + [(12, 8, 6), (0, 9, 12)]:
            for corner in CORNERS:
                for number in range(1, 26):
                    passed = (corner, number)
                    self.check_fraction(border.angle(orders, passed), slow_angle(orders, passed))
        self.assertEqual(border.angle((2, 4, 4), (("0", "1"), 2)), (1, 1))
        self.assertEqual(border.angle((2, 4, 4), (("1", "2"), 1)), (1, 4))
        self.assertEqual(border.angle((2, 4, 4), (("0", "2"), 2)), (1, 2))
        self.assertEqual(border.angle((0, 4, 4), (("0", "1"), 7)), (0, 1))
        for orders in WRONG_ORDERS:
            with self.assertRaises(NotOrders):
                border.angle(orders, (("0", "1"), 2))

    def test_areas(self):
        for orders in ALL:
            self.check_fraction(border.tile_area(orders), slow_area(orders))
        for orders, told in (((2, 3, 6), (0, 1)), ((3, 3, 3), (0, 1)), ((2, 2, 2), (-1, 2)),
                             ((3, 4, 2), (-1, 12)), ((0, 0, 0), (1, 1)), ((0, 3, 2), (1, 6)),
                             ((2, 0, 2), (0, 1)), ((12, 12, 12), (3, 4)), ((2, 3, 5), (-1, 30))):
            self.assertEqual(border.tile_area(orders), told)
        for polygon in all_polygons():
            told = slow_area(polygon[0]) * len(polygon[1])
            self.check_fraction(border.area(polygon), told)
        self.assertEqual(border.area(((2, 2, 2), tuple(ball((2, 2, 2), 3)))), (-4, 1))
        self.assertEqual(border.area(((0, 3, 2), ("", "0", "1"))), (1, 2))
        for orders in WRONG_ORDERS:
            with self.assertRaises(NotOrders):
                border.tile_area(orders)

    def test_euler_numbers(self):
        for polygon in all_polygons():
            found = border.euler_number(polygon)
            self.assertEqual(found, Slow(polygon).euler_number(), polygon)
            self.assertEqual(len(border.circles(polygon)), 2 - found)
            angles = [border.angle(polygon[0], passed) for passed in border.border_corners(polygon)]
            total = sum(1 - Fraction(*found_angle) for found_angle in angles)
            self.assertEqual(total, 2 * found + Fraction(*border.area(polygon)))

    def test_example(self):
        polygon = ((2, 4, 4), ("", "0"))
        self.assertEqual(border.passage(polygon, ("", "1"), "0"), (("0", "1"), (("0", "1"), 2)))
        self.assertEqual(border.circles(polygon), [[("", "1"), ("0", "1"), ("0", "2"), ("", "2")]])
        angles = [border.angle((2, 4, 4), passed) for passed in border.border_corners(polygon)]
        self.assertEqual(angles, [(1, 1), (1, 4), (1, 2), (1, 4)])
        self.assertEqual(border.euler_number(polygon), 1)
        self.assertEqual(border.area(polygon), (0, 1))
        self.assertIs(border.is_disc(polygon), True)

    def test_wrong_polygons(self):
        for wrong in NOT_POLYGONS:
            for call in (border.circles, border.border_corners, border.area, border.euler_number,
                         border.is_disc):
                with self.assertRaises(NotPolygon):
                    call(wrong)


class Moved(unittest.TestCase):
    def test_moved_polygons(self):
        for polygon in all_polygons():
            for word in ("0", "10212"):
                other = moved(polygon, word)
                self.assertEqual(len(border_sides(other)), len(border_sides(polygon)))
                self.assertEqual(sorted(map(len, border.circles(other))),
                                 sorted(map(len, border.circles(polygon))))
                self.assertEqual(sorted(border.border_corners(other)),
                                 sorted(border.border_corners(polygon)))
                self.assertEqual(border.area(other), border.area(polygon))
                self.assertEqual(border.euler_number(other), border.euler_number(polygon))
                self.assertEqual(other[1], tuple(sorted(other[1], key=rank)))


if __name__ == "__main__":
    unittest.main()
