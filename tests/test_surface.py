"""Promises [140] to [148]: the surface that is made by gluing the sides of a polygon."""

import random
import unittest
from fractions import Fraction

from foldfloor import surface
from foldfloor.orders import kind_of
from foldfloor.pairing import mirrors
from foldfloor.rings import ball
from tests.gluings import (border_of, fitting_gluings, large_gluings, mixed, slow_step, twins,
                           wrong_gluings)
from tests.reference import ALL, LETTERS, order_of
from tests.test_rounds import slow_rounds

ONE = ((3, 4, 2), ("",))

TWO = ((3, 4, 2), ("", "0"))

PAIRS = ((("", "1"), ("0", "1")), (("", "2"), ("0", "2")))

CALLS = (surface.side_count, surface.rim, surface.has_sides, surface.euler_number,
         surface.exact_euler_number, surface.handles, surface.name_of)


class Slow:
    """A surface by the definitions."""

    def __init__(self, polygon, pairs):
        self.polygon, self.pairs = polygon, pairs
        self.orders, self.tiles = polygon
        self.rounds = slow_rounds(polygon, pairs)

    def side_count(self):
        within = 3 * len(self.tiles) - len(border_of(self.polygon))
        return within // 2 + len(self.pairs)

    def mirror_at(self, tile, letter):
        return self.pairs.index(((tile, letter), (tile, letter)))

    def next_mirror(self, side, other):
        """The mirror at the other end of the round over one corner of a mirror."""
        tile, letter = side
        while True:
            there = slow_step(self.polygon, self.pairs, tile, other)[0]
            if there == tile:
                return self.mirror_at(tile, other)
            tile = there
            letter, other = other, letter

    def rim(self):
        left = [k for k, (one, other) in enumerate(self.pairs) if one == other]
        found = []
        while left:
            circle = [left[0]]
            for k in circle:
                side = self.pairs[k][0]
                for other in LETTERS:
                    if other != side[1]:
                        following = self.next_mirror(side, other)
                        if following not in circle:
                            circle.append(following)
            found.append(sorted(circle))
            left = [k for k in left if k not in circle]
        return found

    def has_sides(self):
        signs = {self.tiles[0]: 1}
        queue = [self.tiles[0]]
        for tile in queue:
            for letter in LETTERS:
                if ((tile, letter), (tile, letter)) in self.pairs:
                    continue
                there = slow_step(self.polygon, self.pairs, tile, letter)[0]
                if there not in signs:
                    signs[there] = -signs[tile]
                    queue.append(there)
                elif signs[there] == signs[tile]:
                    return False
        return True

    def euler_number(self):
        return len(self.rounds) - self.side_count() + len(self.tiles)

    def exact(self):
        total = Fraction(self.euler_number())
        for one, other, _, is_open, turns in self.rounds:
            weight = 1 - Fraction(1, turns) if order_of(self.orders, one, other) else Fraction(1)
            total -= weight if is_open else weight / 2
        return total

    def handles(self):
        missing = 2 - len(self.rim()) - self.euler_number()
        if self.has_sides():
            assert missing % 2 == 0 and missing >= 0
            return missing // 2
        assert missing >= 1
        return missing

    def name(self):
        holes, zeros, cones, corners = 0, [], [], []
        for one, other, _, is_open, turns in self.rounds:
            if order_of(self.orders, one, other) == 0:
                if is_open:
                    holes += 1
                else:
                    zeros.append(0)
            elif turns > 1:
                (cones if is_open else corners).append(turns)
        return (self.has_sides(), self.handles(), len(self.rim()), holes, tuple(sorted(cones)),
                tuple(sorted(corners)) + tuple(zeros))


def all_gluings():
    return list(fitting_gluings()) + [one for pair in twins() for one in pair] + list(large_gluings())


class AgainstSearch(unittest.TestCase):
    def test_all(self):
        met = {True: set(), False: set()}
        for polygon, pairs in all_gluings():
            slow = Slow(polygon, pairs)
            self.assertEqual(surface.side_count(polygon, pairs), slow.side_count())
            self.assertEqual(surface.rim(polygon, pairs), slow.rim(), (polygon, pairs))
            self.assertIs(surface.has_sides(polygon, pairs), slow.has_sides())
            self.assertEqual(surface.euler_number(polygon, pairs), slow.euler_number())
            self.assertEqual(surface.handles(polygon, pairs), slow.handles())
            name = surface.name_of(polygon, pairs)
            self.assertEqual(name, slow.name())
            self.assertEqual([type(part) for part in name], [bool, int, int, int, tuple, tuple])
            met[name[0]].add(name[1:4])
            exact = slow.exact()
            self.assertEqual(surface.exact_euler_number(polygon, pairs),
                             (exact.numerator, exact.denominator))
        # Handles, circles of the rim, and holes of both kinds of surfaces.
        for has_sides in (True, False):
            for at, numbers in ((0, (1, 2)), (1, (0, 1, 2)), (2, (0, 1))):
                self.assertTrue({name[at] for name in met[has_sides]}.issuperset(numbers), (has_sides, at))

    def test_exact_euler_numbers(self):
        for polygon, pairs in all_gluings():
            orders, tiles = polygon
            total = sum([Fraction(1, order) for order in orders if order], Fraction(-1))
            told = total * len(tiles) / 2
            found = surface.exact_euler_number(polygon, pairs)
            self.assertEqual(found, (told.numerator, told.denominator))
            self.assertGreater(found[1], 0)
            sign = {"round": 1, "flat": 0, "wide": -1}[kind_of(orders)]
            self.assertEqual((found[0] > 0) - (found[0] < 0), sign)
        for orders, told in (((3, 4, 2), (1, 24)), ((3, 3, 3), (0, 1)), ((2, 2, 0), (0, 1)),
                             ((0, 0, 0), (-1, 2)), ((0, 3, 2), (-1, 12)), ((2, 2, 2), (1, 4)),
                             ((12, 12, 12), (-3, 8)), ((3, 7, 2), (-1, 84))):
            polygon = (orders, ("",))
            self.assertEqual(surface.exact_euler_number(polygon, mirrors(polygon)), told)


class Examples(unittest.TestCase):
    def test_one_tile_with_three_mirrors(self):
        self.assertEqual(surface.name_of(ONE, mirrors(ONE)), (True, 0, 1, 0, (), (2, 3, 4)))
        free = ((0, 0, 0), ("",))
        self.assertEqual(surface.name_of(free, mirrors(free)), (True, 0, 1, 0, (), (0, 0, 0)))
        mixed_orders = ((0, 5, 2), ("",))
        self.assertEqual(surface.name_of(mixed_orders, mirrors(free)), (True, 0, 1, 0, (), (2, 5, 0)))
        for orders in ALL:
            polygon = (orders, ("",))
            self.assertEqual(surface.side_count(polygon, mirrors(polygon)), 3)
            self.assertEqual(surface.rim(polygon, mirrors(polygon)), [[0, 1, 2]])
            self.assertEqual(surface.euler_number(polygon, mirrors(polygon)), 1)
            self.assertEqual(surface.handles(polygon, mirrors(polygon)), 0)

    def test_a_sphere(self):
        self.assertEqual(surface.name_of(TWO, PAIRS), (True, 0, 0, 0, (2, 3, 4), ()))
        self.assertEqual(surface.rim(TWO, PAIRS), [])
        self.assertEqual(surface.side_count(TWO, PAIRS), 3)
        self.assertEqual(surface.euler_number(TWO, PAIRS), 2)
        self.assertEqual(surface.exact_euler_number(TWO, PAIRS), (1, 12))
        free = ((0, 0, 0), ("", "0"))
        self.assertEqual(surface.name_of(free, PAIRS), (True, 0, 0, 3, (), ()))

    def test_whole_floors(self):
        for orders in ((2, 2, 2), (3, 3, 2), (3, 4, 2)):
            polygon = (orders, tuple(ball(orders, 9)))
            self.assertEqual(surface.name_of(polygon, ()), (True, 0, 0, 0, (), ()))
            self.assertEqual(surface.exact_euler_number(polygon, ()), (2, 1))

    def test_closed_surfaces(self):
        # The six tiles around a corner of (3, 3, 3), and their outer sides paired.
        polygon = ((3, 3, 3), ("", "0", "1", "01", "10", "010"))
        for pairs, told in (
                ([("", "010"), ("0", "10"), ("1", "01")], (True, 1, 0, 0, (), ())),
                ([("", "01"), ("0", "10"), ("1", "010")], (False, 2, 0, 0, (), ())),
                ([("", "0"), ("01", "010"), ("1", "10")], (True, 0, 0, 0, (3, 3, 3), ()))):
            pairs = tuple(((one, "2"), (other, "2")) for one, other in pairs)
            self.assertEqual(surface.name_of(polygon, pairs), told)
            self.assertEqual(surface.euler_number(polygon, pairs), 2 - told[1] * (2 if told[0] else 1))
            self.assertEqual(surface.exact_euler_number(polygon, pairs), (0, 1))
            self.assertEqual(surface.side_count(polygon, pairs), 9)

    def test_a_half_band(self):
        polygon = ((2, 2, 0), ("", "0"))
        pairs = ((("0", "2"), ("", "2")), (("0", "1"), ("0", "1")), (("", "1"), ("", "1")))
        self.assertEqual(surface.rim(polygon, pairs), [[1, 2]])
        self.assertIs(surface.has_sides(polygon, pairs), True)
        self.assertEqual(surface.name_of(polygon, pairs), (True, 0, 1, 1, (), ()))
        self.assertEqual(surface.name_of(polygon, mirrors(polygon)), (True, 0, 1, 0, (), (2, 2, 0)))

    def test_parts_are_in_order(self):
        self.assertEqual(surface.name_of(((5, 2, 3), ("",)), mirrors(ONE)), (True, 0, 1, 0, (), (2, 3, 5)))
        self.assertEqual(surface.name_of(((0, 5, 3), ("",)), mirrors(ONE)), (True, 0, 1, 0, (), (3, 5, 0)))
        self.assertEqual(surface.name_of(((5, 2, 3), ("", "0")), PAIRS), (True, 0, 0, 0, (2, 3, 5), ()))
        self.assertEqual(surface.name_of(((5, 0, 3), ("", "0")), PAIRS), (True, 0, 0, 1, (3, 5), ()))


class Rims(unittest.TestCase):
    def test_circles_of_each_number_of_mirrors(self):
        met = set()
        for polygon, pairs in all_gluings():
            found = surface.rim(polygon, pairs)
            told = [k for k, (one, other) in enumerate(pairs) if one == other]
            self.assertEqual(sorted(k for circle in found for k in circle), told)
            self.assertEqual(found, sorted([sorted(circle) for circle in found]))
            met |= {len(circle) for circle in found}
        # Mirrors follow each other at the two ends of a row of tiles, so no mirror follows itself.
        self.assertTrue(met.issuperset([2, 3, 4, 5]))
        self.assertNotIn(1, met)

    def test_several_circles(self):
        many = [surface.rim(polygon, pairs) for polygon, pairs in all_gluings()]
        self.assertTrue(any(len(circles) > 1 for circles in many))
        self.assertTrue(any(len(circles) > 1 and circles[0][-1] > circles[1][0] for circles in many))

    def test_lists_are_not_shared(self):
        surface.rim(ONE, mirrors(ONE))[0].clear()
        self.assertEqual(surface.rim(ONE, mirrors(ONE)), [[0, 1, 2]])


class SameGroup(unittest.TestCase):
    def test_twins_have_the_same_name(self):
        source = random.Random(2)
        for first, second in twins():
            self.assertEqual(surface.name_of(*first), surface.name_of(*second))
            self.assertEqual(surface.exact_euler_number(*first), surface.exact_euler_number(*second))
            polygon, pairs = first
            self.assertEqual(surface.name_of(polygon, mixed(pairs, source)), surface.name_of(*second))


class Errors(unittest.TestCase):
    def test_errors_in_their_order(self):
        for call in CALLS:
            for polygon, pairs, error in wrong_gluings():
                self.assertRaises(error, call, polygon, pairs)


if __name__ == "__main__":
    unittest.main()
