"""Promises [123] to [127]: relations, the index, equal groups and normal groups."""

import random
import unittest

from foldfloor import groups
from foldfloor.copies import in_group, place_of
from foldfloor.errors import BadNumber, NotFitting, NotPairing, NotPolygon
from foldfloor.pairing import mirrors, pair_motion, row_motion
from foldfloor.polygons import moved
from foldfloor.rings import ball
from foldfloor.rounds import rounds_of
from tests.gluings import (fitting_gluings, mixed, pair_word, polygon_from, reference, slow_step,
                           slow_walk, twins, wrong_gluings)
from tests.reference import ALL, LETTERS, all_words, order_of
from tests.test_copies import slow_part
from tests.test_rounds import slow_rounds

ONE = ((3, 4, 2), ("",))

TWO = ((3, 4, 2), ("", "0"))

PAIRS = ((("", "1"), ("0", "1")), (("", "2"), ("0", "2")))

NOT_FITTING = ((3, 7, 2), ("", "0"))

CALLS = (groups.relations, groups.index_of, groups.is_normal)


def slow_relations(polygon, pairs):
    found = [(k + 1, k + 1) for k, (one, other) in enumerate(pairs) if one == other]
    for one, other, tiles, _, _ in slow_rounds(polygon, pairs):
        row = slow_walk(polygon, pairs, tiles[0], (one + other) * order_of(polygon[0], one, other))[1]
        if row:
            found.append(row)
    return tuple(found)


def contains(gluing, word):
    """Whether a word is one of the group, by the walk."""
    first = gluing[0][1][0]
    return slow_part(*gluing, word + first)[1] == first


def slow_same(first, second):
    return (all(contains(first, pair_word(pair)) for pair in second[1])
            and all(contains(second, pair_word(pair)) for pair in first[1]))


def walk_permutations(polygon, pairs):
    """The permutation of the polygon's tiles for each letter."""
    return [tuple(polygon[1].index(slow_step(polygon, pairs, tile, letter)[0]) for tile in polygon[1])
            for letter in LETTERS]


def products_of(rows):
    """All products of some permutations."""
    found = [tuple(range(len(rows[0])))]
    seen = set(found)
    for one in found:
        for row in rows:
            new = tuple(row[s] for s in one)
            if new not in seen:
                seen.add(new)
                found.append(new)
    return found


class Relations(unittest.TestCase):
    def test_against_search(self):
        for polygon, pairs in fitting_gluings():
            found = groups.relations(polygon, pairs)
            self.assertEqual(found, slow_relations(polygon, pairs))
            for row in found:
                self.assertNotEqual(row, ())
                self.assertEqual(row_motion(polygon, pairs, row), "")

    def test_three_mirrors(self):
        self.assertEqual(groups.relations(ONE, mirrors(ONE)),
                         ((1, 1), (2, 2), (3, 3), (1, 2) * 3, (1, 3) * 2, (2, 3) * 4))
        free = ((0, 0, 0), ("",))
        self.assertEqual(groups.relations(free, mirrors(free)), ((1, 1), (2, 2), (3, 3)))
        self.assertEqual(groups.relations(((0, 2, 0), ("",)), mirrors(free)),
                         ((1, 1), (2, 2), (3, 3), (2, 3) * 2))

    def test_empty_rows_are_left_out(self):
        # Nothing is noted around the corner of the six tiles.
        polygon = ((3, 2, 2), ("", "0", "1", "01", "10", "010"))
        pairs = mirrors(polygon)
        found = groups.relations(polygon, pairs)
        self.assertEqual(found[:6], tuple((k, k) for k in range(1, 7)))
        self.assertEqual(len(found) - 6, len(rounds_of(polygon, pairs)) - 1)
        self.assertNotIn((), found)
        whole = ((3, 3, 2), tuple(ball((3, 3, 2), 6)))
        self.assertEqual(groups.relations(whole, ()), ())

    def test_two_tiles(self):
        polygon = ((4, 2, 2), ("", "0"))
        self.assertEqual(groups.relations(polygon, mirrors(polygon)),
                         ((1, 1), (2, 2), (3, 3), (4, 4), (3, 1, 3, 1), (4, 2), (1, 2) * 2, (3, 4) * 2))
        pairs = ((("0", "1"), ("", "1")), (("0", "2"), ("0", "2")), (("", "2"), ("", "2")))
        self.assertEqual(groups.relations(TWO, pairs),
                         ((2, 2), (3, 3), (-1, -1, -1), (2, 3), (1, 2, -1, 3) * 2))


class Indexes(unittest.TestCase):
    def test_number_of_places(self):
        for polygon, pairs in fitting_gluings():
            found = groups.index_of(polygon, pairs)
            self.assertEqual(found, len(polygon[1]))
            if found <= 4:
                self.assertEqual(len({place_of(polygon, pairs, word) for word in all_words(3)}), found)

    def test_examples(self):
        self.assertEqual(groups.index_of(ONE, mirrors(ONE)), 1)
        for word in ball((3, 4, 2), 4):
            self.assertIs(in_group(ONE, mirrors(ONE), word), True)
        for orders in ((2, 3, 2), (4, 5, 6), (0, 3, 2), (2, 7, 0), (0, 0, 0), (12, 11, 12)):
            polygon = (orders, ("", "0"))
            self.assertEqual(groups.index_of(polygon, mirrors(polygon)), 2)
            self.assertIs(groups.is_normal(polygon, mirrors(polygon)), True)


class Same(unittest.TestCase):
    def test_twins(self):
        for first, second in twins():
            self.assertIs(slow_same(first, second), True)
            self.assertIs(groups.same_group(*first, *second), True)
            self.assertEqual(len(first[0][1]), len(second[0][1]))

    def test_exchanged(self):
        source = random.Random(3)
        for polygon, pairs in fitting_gluings():
            self.assertIs(groups.same_group(polygon, pairs, polygon, mixed(pairs, source)), True)
            self.assertIs(groups.same_group(polygon, pairs, polygon, pairs[::-1]), True)

    def test_against_search(self):
        met = set()
        source = random.Random(8)
        for orders in ALL:
            found = [gluing for gluing in fitting_gluings() if gluing[0][0] == orders]
            found = [gluing for gluing in found if len(gluing[0][1]) <= 8]
            found += [twin for pair in twins() for twin in pair if twin[0][0] == orders]
            for _ in range(12):
                first, second = source.choice(found), source.choice(found)
                told = slow_same(first, second)
                met.add((told, len(first[0][1]) == len(second[0][1])))
                self.assertIs(groups.same_group(*first, *second), told)
        self.assertEqual(met, {(True, True), (False, True), (False, False)})

    def test_one_group_within_the_other(self):
        self.assertIs(groups.same_group(ONE, mirrors(ONE), TWO, PAIRS), False)
        self.assertIs(groups.same_group(TWO, PAIRS, ONE, mirrors(ONE)), False)

    def test_moved_polygons(self):
        # The even words are a normal group: a moved polygon with the moved pairing has it, too.
        for word in ("1", "02", "0121"):
            floor = reference((3, 4, 2))
            moved_pairs = tuple(tuple((floor.normal(word + tile), letter) for tile, letter in pair)
                                for pair in PAIRS)
            self.assertIs(groups.same_group(TWO, PAIRS, moved(TWO, word), moved_pairs), True)

    def test_conjugates(self):
        # A group of index 3 that is not normal, and the group of the moved polygon.
        polygon, pairs = polygon_from((3, 2, 2), [[1, 0, 2], [0, 2, 1], [0, 1, 2]], random.Random(1), "")
        floor = reference((3, 2, 2))
        self.assertIs(groups.is_normal(polygon, pairs), False)
        told = []
        for word in ("", "0", "1", "01", "2"):
            moved_pairs = tuple(tuple((floor.normal(word + tile), letter) for tile, letter in pair)
                                for pair in pairs)
            told.append(groups.same_group(polygon, pairs, moved(polygon, word), moved_pairs))
        self.assertEqual(told, [True, False, True, False, True])

    def test_errors_in_their_order(self):
        right = (ONE, mirrors(ONE))
        other_orders = (((3, 4, 3), ("",)), mirrors(ONE))
        with self.assertRaises(BadNumber):
            groups.same_group(*right, *other_orders)
        with self.assertRaises(BadNumber):
            groups.same_group(*other_orders, TWO, PAIRS)
        wrong = [(((3, 3, 3), ("", "01")), (), NotPolygon), (((3, 3, 1), ("",)), (), NotPolygon),
                 (TWO, PAIRS[:1], NotPairing), (NOT_FITTING, mirrors(NOT_FITTING), NotFitting)]
        for polygon, pairs, error in wrong:
            with self.assertRaises(error):
                groups.same_group(*right, polygon, pairs)
            with self.assertRaises(error):
                groups.same_group(*other_orders, polygon, pairs)
            for other, others, _ in wrong:
                with self.assertRaises(error):
                    groups.same_group(polygon, pairs, other, others)


class Normal(unittest.TestCase):
    def test_against_products(self):
        # A group is normal exactly if no product of the letters leaves one place alone where it is.
        met = set()
        for polygon, pairs in fitting_gluings():
            if len(polygon[1]) <= 6:
                many = len(products_of(walk_permutations(polygon, pairs)))
                self.assertIs(groups.is_normal(polygon, pairs), many == len(polygon[1]))
                met.add((many == len(polygon[1]), len(polygon[1])))
        self.assertTrue(met.issuperset([(True, 2), (True, 4), (False, 3), (False, 4), (True, 6)]))

    def test_by_definition(self):
        for polygon, pairs in fitting_gluings()[::4]:
            words = [pair_motion(polygon, pairs, k) for k in range(len(pairs))]
            told = all(contains((polygon, pairs), x + word + x) for word in words for x in LETTERS)
            self.assertIs(groups.is_normal(polygon, pairs), told)

    def test_whole_floors(self):
        for orders in ((2, 2, 2), (3, 3, 2)):
            self.assertIs(groups.is_normal((orders, tuple(ball(orders, 6))), ()), True)


class Errors(unittest.TestCase):
    def test_errors(self):
        for polygon, pairs, error in wrong_gluings():
            for call in CALLS:
                with self.assertRaises(error):
                    call(polygon, pairs)


if __name__ == "__main__":
    unittest.main()
