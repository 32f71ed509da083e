"""Promises [240] to [243]: all pairings of a polygon, and those that fit."""

import random
import unittest
from itertools import islice

from foldfloor import search
from foldfloor.border import border_corners
from foldfloor.errors import BadNumber, NotPolygon
from foldfloor.groups import same_group
from foldfloor.pairing import check_pairing, mirrors
from foldfloor.polygons import polygon_of
from foldfloor.rings import ball
from foldfloor.rounds import fits
from tests.gluings import border_of, every_pairing, slow_overlap
from tests.reference import ALL, LETTERS, order_of
from tests.test_border import NOT_POLYGONS, special_polygons
from tests.test_images import TWO, WHOLE
from tests.test_polygons import some_polygon, some_polygons

LARGE = ((0, 0, 0), tuple(ball((0, 0, 0), 6)[:60]))


def small_polygons():
    return [some_polygon(orders, many, many) for orders in ALL for many in (1, 2, 3, 5)] + [
        WHOLE, ((3, 3, 2), tuple(ball((3, 3, 2), 6)[:-1]))]


def slow_pairings(sides):
    """All pairings in the order of [240], as lists of pairs."""
    if not sides:
        return [[]]
    first = sides[0]
    found = []
    for other in [first] + [side for side in sides[1:] if side[1] == first[1]]:
        left = [side for side in sides if side not in (first, other)]
        found += [[(first, other)] + more for more in slow_pairings(left)]
    return found


def slow_count(polygon):
    numbers = [1, 1]
    for n in range(2, 70):
        numbers.append(numbers[n - 1] + (n - 1) * numbers[n - 2])
    found = 1
    for letter in LETTERS:
        found *= numbers[len([side for side in border_of(polygon) if side[1] == letter])]
    return found


class AllPairings(unittest.TestCase):
    def test_one_by_one(self):
        for polygon in small_polygons():
            told = [tuple(pairs) for pairs in slow_pairings(border_of(polygon))]
            self.assertEqual(list(search.all_pairings(polygon)), told)
            self.assertEqual(search.count_pairings(polygon), len(told))
            self.assertEqual(len(set(told)), len(told))
            self.assertEqual(told[0], mirrors(polygon))
            unordered = {frozenset(map(frozenset, pairs)) for pairs in told}
            self.assertEqual(unordered, {frozenset(map(frozenset, pairs)) for pairs in every_pairing(polygon)})
            for number, pairs in enumerate(told[:60]):
                self.assertEqual(search.pairing_at(polygon, number), pairs)
                self.assertIsNone(check_pairing(polygon, pairs))

    def test_order_of_sides(self):
        ranks = {tile: at for at, tile in enumerate(LARGE[1])}
        for pairs in islice(search.all_pairings(LARGE), 50):
            firsts = [(ranks[one], letter) for (one, letter), _ in pairs]
            self.assertEqual(firsts, sorted(firsts))
            for (one, letter), (other, same) in pairs:
                self.assertEqual(letter, same)
                self.assertLessEqual(ranks[one], ranks[other])

    def test_small_ones(self):
        zero, one = (("", "1"), ("0", "1")), (("", "2"), ("0", "2"))
        alone = {side: (side, side) for side in zero + one}
        self.assertEqual(list(search.all_pairings(TWO)),
                         [tuple(alone[side] for side in (zero[0], one[0], zero[1], one[1])),
                          (alone[zero[0]], one, alone[zero[1]]),
                          (zero, alone[one[0]], alone[one[1]]), (zero, one)])
        self.assertEqual(list(search.all_pairings(WHOLE)), [()])
        self.assertEqual(search.count_pairings(WHOLE), 1)
        self.assertEqual(search.pairing_at(WHOLE, 0), ())

    def test_errors_at_the_first_step(self):
        for polygon in NOT_POLYGONS:
            rows = search.all_pairings(polygon)
            with self.assertRaises(NotPolygon):
                next(rows)

    def test_many_pairings_are_not_listed_ahead(self):
        rows = search.all_pairings(LARGE)
        self.assertEqual(next(rows), mirrors(LARGE))
        self.assertNotEqual(next(rows), mirrors(LARGE))


class Counting(unittest.TestCase):
    def test_numbers(self):
        for polygon in some_polygons() + special_polygons() + [LARGE]:
            self.assertEqual(search.count_pairings(polygon), slow_count(polygon))
        self.assertGreater(search.count_pairings(LARGE), 10 ** 25)

    def test_first_numbers(self):
        # Rows of tiles with 0, 1, 2, .. border sides of the letter 2: 1, 1, 2, 4, 10, 26, ..
        for many, told in enumerate((1, 1, 2, 4, 10, 26, 76, 232)):
            if many > 0:
                words = [("01" * 5)[:length] for length in range(many)]
                polygon = polygon_of((0, 0, 0), words)
                ends = [side for side in border_of(polygon) if side[1] != "2"]
                self.assertEqual(len(ends), 2)
                factor = 2 if ends[0][1] == ends[1][1] else 1
                self.assertEqual(search.count_pairings(polygon), told * factor)


class Numbered(unittest.TestCase):
    def test_large_polygon(self):
        many = search.count_pairings(LARGE)
        rows = list(islice(search.all_pairings(LARGE), 200))
        self.assertEqual([search.pairing_at(LARGE, number) for number in range(200)], rows)
        # In the last one, each side is paired with the last one that is left.
        left = list(border_of(LARGE))
        last = []
        while left:
            other = [side for side in left if side[1] == left[0][1]][-1]
            last.append((left[0], other))
            left = [side for side in left if side not in last[-1]]
        self.assertEqual(search.pairing_at(LARGE, many - 1), tuple(last))
        source = random.Random(1)
        numbers = sorted(source.randrange(many) for _ in range(40))
        found = [search.pairing_at(LARGE, number) for number in numbers]
        ranks = {side: at for at, side in enumerate(border_of(LARGE))}
        keys = [[ranks[other] for _, other in pairs] for pairs in found]
        self.assertEqual(keys, sorted(keys))
        for pairs in found:
            self.assertIsNone(check_pairing(LARGE, pairs))

    def test_last_ones(self):
        for polygon in small_polygons():
            told = slow_pairings(border_of(polygon))
            for back in range(1, min(20, len(told)) + 1):
                self.assertEqual(search.pairing_at(polygon, len(told) - back), tuple(told[-back]))

    def test_no_such_number(self):
        for polygon in small_polygons() + [LARGE]:
            many = search.count_pairings(polygon)
            for number in (-1, many, many + 1, -many, 10 ** 60):
                self.assertRaises(BadNumber, search.pairing_at, polygon, number)


class Fitting(unittest.TestCase):
    def test_against_search(self):
        numbers = set()
        for polygon in small_polygons():
            told = [tuple(pairs) for pairs in slow_pairings(border_of(polygon))[:200]]
            told = [pairs for pairs in told if slow_overlap(polygon, pairs) is None]
            self.assertEqual(search.fitting_pairings(polygon), told)
            self.assertEqual(search.fitting_pairings(polygon, most=200), told)
            numbers.add(len(told))
        self.assertTrue(numbers.issuperset([0, 1, 2, 3]))

    def test_most(self):
        polygon = polygon_of((0, 0, 0), ["", "0", "1", "2"])
        every = list(search.all_pairings(polygon))
        self.assertEqual(len(every), search.count_pairings(polygon))
        for most in (0, 1, 2, 5, len(every) - 1, len(every), len(every) + 1, 2000):
            # All corners are holes, so that each pairing fits.
            self.assertEqual(search.fitting_pairings(polygon, most=most), every[:most])
        self.assertEqual(search.fitting_pairings(LARGE), list(islice(search.all_pairings(LARGE), 200)))
        self.assertEqual(len(search.fitting_pairings(LARGE, most=2000)), 2000)
        self.assertEqual(search.fitting_pairings(WHOLE, most=0), [])
        self.assertEqual(search.fitting_pairings(WHOLE), [()])

    def test_wrong_numbers(self):
        for call in (search.fitting_pairings, search.group_classes):
            for most in (-1, 2001, -10 ** 20, 10 ** 20):
                with self.assertRaises(BadNumber):
                    call(TWO, most=most)

    def test_all_mirrors(self):
        told = set()
        for polygon in some_polygons() + special_polygons():
            divides = [order_of(polygon[0], *corner) % many == 0 for corner, many in border_corners(polygon)]
            self.assertIs(fits(polygon, mirrors(polygon)), all(divides))
            self.assertEqual(search.fitting_pairings(polygon, most=1), [mirrors(polygon)] if all(divides) else [])
            told.add(all(divides))
        self.assertEqual(told, {True, False})


class Classes(unittest.TestCase):
    def test_by_definition(self):
        for polygon in small_polygons():
            for most in (0, 3, 60):
                found = search.fitting_pairings(polygon, most=most)
                told = []
                for pairs in found:
                    same = [k for k, other in enumerate(found) if same_group(polygon, pairs, polygon, other)]
                    told.append(same[0])
                self.assertEqual(search.group_classes(polygon, most=most), told)

    def test_lengths(self):
        for polygon in small_polygons() + [LARGE]:
            found = search.group_classes(polygon)
            self.assertEqual(len(found), len(search.fitting_pairings(polygon)))
            self.assertTrue(all(first <= k for k, first in enumerate(found)))
        self.assertEqual(search.group_classes(WHOLE), [0])
        self.assertEqual(len(search.group_classes(LARGE, most=2000)), 2000)


class Errors(unittest.TestCase):
    def test_polygons_first(self):
        for polygon in NOT_POLYGONS:
            self.assertRaises(NotPolygon, search.count_pairings, polygon)
            self.assertRaises(NotPolygon, list, search.all_pairings(polygon))
            for number in (0, -1, 10 ** 9):
                self.assertRaises(NotPolygon, search.pairing_at, polygon, number)
            for most in (200, -1, 2001):
                with self.assertRaises(NotPolygon):
                    search.fitting_pairings(polygon, most=most)
                with self.assertRaises(NotPolygon):
                    search.group_classes(polygon, most=most)


if __name__ == "__main__":
    unittest.main()
