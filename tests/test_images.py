"""Promises [160] and [161]: images of a pairing."""

import random
import unittest
from itertools import permutations, product

from foldfloor import images
from foldfloor.errors import BadNumber, NotFitting, NotImages, NotPairing, NotPolygon, NotRow, TooLarge
from foldfloor.groups import relations
from foldfloor.pairing import mirrors, row_motion
from foldfloor.rings import ball
from tests.gluings import fitting_gluings, some_row, wrong_gluings
from tests.test_groups import products_of, slow_relations

ONE = ((3, 4, 2), ("",))

TWO = ((3, 4, 2), ("", "0"))

PAIRS = ((("", "1"), ("0", "1")), (("", "2"), ("0", "2")))

WHOLE = ((3, 3, 2), tuple(ball((3, 3, 2), 6)))

FREE = ((0, 0, 0), ("", "0"))


def slow_permutation(found, degree, row):
    told = []
    for s in range(degree):
        for number in row:
            permutation = found[abs(number) - 1]
            s = permutation[s] if number > 0 else [at for at in range(degree) if permutation[at] == s][0]
        told.append(s)
    return tuple(told)


def slow_satisfies(rows, found, degree):
    return all(slow_permutation(found, degree, row) == tuple(range(degree)) for row in rows)


def slow_transitive(found, degree):
    if not found:
        return degree == 1
    return {row[0] for row in products_of(list(found))} == set(range(degree))


def slow_images(polygon, pairs, degree):
    rows = slow_relations(polygon, pairs)
    every = product(permutations(range(degree)), repeat=len(pairs))
    return [found for found in every if slow_satisfies(rows, found, degree)]


def some_images(pairs, degree, source):
    found = []
    for _ in pairs:
        row = list(range(degree))
        source.shuffle(row)
        found.append(tuple(row))
    return tuple(found)


class Conditions(unittest.TestCase):
    def check(self, polygon, pairs, found, told):
        if told:
            self.assertIsNone(images.check_images(polygon, pairs, found))
            self.assertIn(images.satisfies(polygon, pairs, found), (True, False))
            return
        for call in (images.check_images, images.satisfies, images.is_transitive):
            with self.assertRaises(NotImages):
                call(polygon, pairs, found)
        for row in ((), (0,), (99,)):
            with self.assertRaises(NotImages):
                images.permutation_of(polygon, pairs, found, row)

    def test_images(self):
        source = random.Random(1)
        for polygon, pairs in fitting_gluings()[::2]:
            for degree in range(1, 5):
                self.check(polygon, pairs, some_images(pairs, degree, source), True)

    def test_numbers_of_permutations(self):
        for found in ((), ((0, 1),), ((0, 1),) * 3, ((0,),), ((0, 1, 2),) * 4):
            self.check(TWO, PAIRS, found, False)
        self.check(TWO, PAIRS, ((0, 1),) * 2, True)
        self.check(ONE, mirrors(ONE), ((0,),) * 3, True)
        self.check(ONE, mirrors(ONE), ((0,),) * 2, False)

    def test_no_permutations(self):
        for wrong in ((0, 0), (1, 1), (1, 2), (0, 2), (-1, 0), (), (0, 1, 1), (3, 0, 1), (0, 1, 2, 4)):
            self.check(TWO, PAIRS, (wrong, wrong), False)
            self.check(TWO, PAIRS, ((0, 1), wrong), False)
            self.check(TWO, PAIRS, (wrong, (0, 1)), False)
        self.check(TWO, PAIRS, ([0, 1], [1, 0]), False)

    def test_degrees(self):
        for one, other in (((0,), (0, 1)), ((0, 1), (0,)), ((0, 1, 2), (1, 0)), ((1, 0, 3, 2), (0, 2, 1))):
            self.check(TWO, PAIRS, (one, other), False)
        for degree in range(1, 5):
            self.check(TWO, PAIRS, (tuple(range(degree)),) * 2, True)
        for degree in (0, 5, 6, 12):
            self.check(TWO, PAIRS, (tuple(range(degree)),) * 2, False)
            self.check(TWO, PAIRS, (tuple(range(degree))[::-1],) * 2, False)

    def test_no_pairs(self):
        self.check(WHOLE, (), (), True)
        self.check(WHOLE, (), ((0,),), False)
        self.assertEqual(images.permutation_of(WHOLE, (), (), ()), (0,))
        self.assertIs(images.satisfies(WHOLE, (), ()), True)
        self.assertIs(images.is_transitive(WHOLE, (), ()), True)
        self.assertEqual(list(images.all_images(WHOLE, (), 1)), [()])


class Permutations(unittest.TestCase):
    def test_against_search(self):
        source = random.Random(3)
        for polygon, pairs in fitting_gluings()[::2]:
            for degree in range(1, 5):
                found = some_images(pairs, degree, source)
                degree = degree if pairs else 1
                row = some_row(pairs, 6, source)
                told = slow_permutation(found, degree, row)
                self.assertEqual(images.permutation_of(polygon, pairs, found, row), told)
                opposite = tuple(-number for number in row[::-1])
                back = images.permutation_of(polygon, pairs, found, opposite)
                self.assertEqual(tuple(back[s] for s in told), tuple(range(degree)))
                self.assertEqual(images.permutation_of(polygon, pairs, found, ()), tuple(range(degree)))

    def test_from_left_to_right(self):
        found = ((1, 2, 0), (1, 0, 2))
        for row, told in (((1,), (1, 2, 0)), ((-1,), (2, 0, 1)), ((1, 2), (0, 2, 1)), ((2, 1), (2, 1, 0)),
                          ((1, 1), (2, 0, 1)), ((1, -2), (0, 2, 1)), ((-1, 2), (2, 1, 0)), ((), (0, 1, 2)),
                          ((1, 2, -1, -2), (2, 0, 1))):
            self.assertEqual(images.permutation_of(FREE, PAIRS, found, row), told, row)

    def test_same_motions(self):
        # If the images satisfy the pairing, rows with one motion have one permutation.
        source = random.Random(4)
        found = ((1, 0, 2), (0, 2, 1), (1, 0, 2))
        self.assertIs(images.satisfies(ONE, mirrors(ONE), found), False)
        found = ((1, 0), (1, 0), (0, 1))
        self.assertIs(images.satisfies(ONE, mirrors(ONE), found), True)
        known = {}
        for _ in range(200):
            row = some_row(mirrors(ONE), 8, source)
            motion = row_motion(ONE, mirrors(ONE), row)
            permutation = images.permutation_of(ONE, mirrors(ONE), found, row)
            self.assertEqual(known.setdefault(motion, permutation), permutation)

    def test_wrong_rows(self):
        for row in ((0,), (3,), (-3,), (1, 0), (1,) * 201):
            with self.assertRaises(NotRow):
                images.permutation_of(TWO, PAIRS, ((0, 1),) * 2, row)
        self.assertEqual(images.permutation_of(TWO, PAIRS, ((1, 0),) * 2, (1,) * 200), (0, 1))


class Kinds(unittest.TestCase):
    def test_against_search(self):
        source = random.Random(5)
        met = set()
        for polygon, pairs in fitting_gluings():
            rows = slow_relations(polygon, pairs)
            self.assertEqual(rows, relations(polygon, pairs))
            for degree in range(1, 5):
                found = some_images(pairs, degree, source)
                degree = degree if pairs else 1
                told = slow_satisfies(rows, found, degree), slow_transitive(found, degree)
                self.assertIs(images.satisfies(polygon, pairs, found), told[0])
                self.assertIs(images.is_transitive(polygon, pairs, found), told[1])
                met.add((degree, told[1]))
        self.assertTrue(met.issuperset([(2, True), (2, False), (3, True), (3, False), (4, True)]))

    def test_transitive(self):
        for found, told in ((((0, 1), (0, 1)), False), (((0, 1), (1, 0)), True),
                            (((1, 2, 0), (0, 1, 2)), True), (((1, 0, 2), (0, 1, 2)), False),
                            (((1, 0, 2), (0, 2, 1)), True), (((2, 1, 0), (2, 1, 0)), False),
                            (((1, 0, 3, 2), (0, 1, 2, 3)), False), (((1, 0, 3, 2), (2, 3, 0, 1)), True),
                            (((0, 2, 3, 1), (0, 1, 2, 3)), False), (((0,), (0,)), True)):
            self.assertIs(images.is_transitive(FREE, PAIRS, found), told)

    def test_satisfies(self):
        for found, told in ((((1, 0), (1, 0)), False), (((0, 1), (1, 0)), True), (((0, 1), (0, 1)), True),
                            (((1, 2, 0), (0, 1, 2)), False), (((0,), (0,)), True)):
            self.assertIs(images.satisfies(TWO, PAIRS, found), told)
            self.assertIs(images.satisfies(FREE, PAIRS, found), True)


class All(unittest.TestCase):
    def test_against_search(self):
        checked = 0
        for polygon, pairs in fitting_gluings():
            for degree in (1, 2, 3):
                if len(pairs) <= (5, 5, 4)[degree - 1]:
                    told = slow_images(polygon, pairs, degree)
                    self.assertEqual(list(images.all_images(polygon, pairs, degree)), told)
                    self.assertEqual(told, sorted(set(told)))
                    checked += 1
        self.assertGreater(checked, 90)

    def test_numbers(self):
        self.assertEqual(list(images.all_images(ONE, mirrors(ONE), 2)),
                         [((0, 1), (0, 1), (0, 1)), ((0, 1), (0, 1), (1, 0)), ((1, 0), (1, 0), (0, 1)),
                          ((1, 0), (1, 0), (1, 0))])
        self.assertEqual(len(list(images.all_images(FREE, PAIRS, 3))), 36)
        self.assertEqual(len(list(images.all_images(FREE, mirrors(FREE), 3))), 256)

    def test_five_pairs(self):
        polygon = ((0, 0, 0), ("", "0", "1"))
        pairs = mirrors(polygon)
        self.assertEqual(len(pairs), 5)
        self.assertEqual(len(list(images.all_images(polygon, pairs, 3))), 4 ** 5)
        self.assertEqual(len(list(images.all_images(polygon, pairs, 1))), 1)
        longer = ((0, 0, 0), ("", "0", "1", "2"))
        for degree in (1, 2, 3):
            with self.assertRaises(TooLarge):
                list(images.all_images(longer, mirrors(longer), degree))

    def test_errors_at_the_first_step(self):
        longer = ((0, 0, 0), ("", "0", "1", "2"))
        for degree in (0, 4, -1, 100):
            for polygon in (ONE, longer):
                steps = images.all_images(polygon, mirrors(polygon), degree)
                with self.assertRaises(BadNumber):
                    next(steps)
        steps = images.all_images(longer, mirrors(longer), 2)
        with self.assertRaises(TooLarge):
            next(steps)
        for degree in (0, 1, 2):
            steps = images.all_images(TWO, PAIRS[:1], degree)
            with self.assertRaises(NotPairing):
                next(steps)
            wrong = ((3, 7, 2), ("", "0", "1", "2"))
            steps = images.all_images(wrong, mirrors(wrong), degree)
            with self.assertRaises(NotFitting):
                next(steps)
            steps = images.all_images(((3, 3, 3), ("", "01")), (), degree)
            with self.assertRaises(NotPolygon):
                next(steps)


class Errors(unittest.TestCase):
    def test_errors_in_their_order(self):
        for polygon, pairs, error in wrong_gluings():
            for found in ((), ((0, 0),), ((0, 1),) * 30):
                for call in (images.check_images, images.satisfies, images.is_transitive):
                    self.assertRaises(error, call, polygon, pairs, found)
                self.assertRaises(error, images.permutation_of, polygon, pairs, found, (0,))


if __name__ == "__main__":
    unittest.main()
