"""Promises [162] to [167]: covers of a polygon with a pairing that fits."""

import random
import unittest
from fractions import Fraction
from functools import lru_cache

from foldfloor import covers
from foldfloor.copies import in_group
from foldfloor.errors import NoAnswer, NotImages, NotWord, TooLarge
from foldfloor.groups import index_of, same_group
from foldfloor.pairing import is_pairing, mirrors, pair_motion, row_motion
from foldfloor.polygons import is_polygon
from foldfloor.rings import ball
from foldfloor.rounds import fits
from foldfloor.surface import exact_euler_number
from foldfloor.words import normal
from tests.gluings import fitting_gluings, reference, row_word, wrong_gluings
from tests.reference import rank
from tests.test_copies import slow_part
from tests.test_groups import products_of, slow_relations
from tests.test_images import (FREE, ONE, PAIRS, TWO, WHOLE, slow_images, slow_permutation, slow_satisfies,
                               slow_transitive, some_images)
from tests.test_words import some_words

CALLS = (covers.copy_rows, covers.cover, covers.is_regular,
         lambda polygon, pairs, images: covers.in_lower(polygon, pairs, images, ""))


@lru_cache(maxsize=None)
def covered():
    """Polygons with pairings and transitive images that satisfy them."""
    source = random.Random(6)
    found = []
    for polygon, pairs in fitting_gluings():
        rows = slow_relations(polygon, pairs)
        if len(polygon[1]) > 15:
            continue
        for degree in range(1, 5):
            if len(pairs) <= 3 and degree <= 3:
                every = [one for one in slow_images(polygon, pairs, degree) if slow_transitive(one, degree)]
                found += [(polygon, pairs, one) for one in source.sample(every, min(2, len(every)))]
                continue
            for _ in range(300):
                one = some_images(pairs, degree, source)
                if slow_satisfies(rows, one, degree) and slow_transitive(one, degree):
                    found.append((polygon, pairs, one))
                    break
    return tuple(found)


def degree_of(images):
    return len(images[0]) if images else 1


def slow_rows(images):
    """The rows of the copies, by the queue of [162]."""
    rows = {0: ()}
    queue = [0]
    for s in queue:
        for k in range(1, len(images) + 1):
            for number in (k, -k):
                there = slow_permutation(images, len(images[0]), (number,))[s]
                if there not in rows:
                    rows[there] = rows[s] + (number,)
                    queue.append(there)
    return [rows[s] for s in range(len(rows))]


def slow_cover(polygon, pairs, images):
    """The cover by [163] and [164]."""
    orders, tiles = polygon
    slow = reference(orders)
    motions = [row_word(pairs, row) for row in slow_rows(images)]
    larger = sorted([slow.normal(motion + tile) for motion in motions for tile in tiles], key=rank)
    found = []
    for s, motion in enumerate(motions):
        for k, ((v, i), (w, _)) in enumerate(pairs):
            there = images[k][s]
            if slow.normal(motion + w + i) in larger:
                continue
            if v == w and s > there:
                continue
            found.append(((slow.normal(motions[there] + v), i), (slow.normal(motion + w), i)))
    return (orders, tuple(larger)), tuple(found)


class Rows(unittest.TestCase):
    def test_against_search(self):
        degrees = set()
        for polygon, pairs, images in covered():
            found = covers.copy_rows(polygon, pairs, images)
            self.assertEqual(found, slow_rows(images) if pairs else [()])
            self.assertEqual(found[0], ())
            for s, row in enumerate(found):
                self.assertIsInstance(row, tuple)
                if pairs:
                    self.assertEqual(slow_permutation(images, degree_of(images), row)[0], s)
            degrees.add(degree_of(images))
        self.assertEqual(degrees, {1, 2, 3, 4})

    def test_order_of_the_queue(self):
        # From 0 the pair 0 leads to 2 and back to 1; the pair 1 comes behind.
        self.assertEqual(covers.copy_rows(FREE, PAIRS, ((2, 0, 1), (1, 0, 2))), [(), (-1,), (1,)])
        self.assertEqual(covers.copy_rows(FREE, PAIRS, ((0, 2, 1), (1, 0, 2))), [(), (2,), (2, 1)])
        self.assertEqual(covers.copy_rows(FREE, PAIRS, ((1, 2, 3, 0), (0, 1, 2, 3))),
                         [(), (1,), (1, 1), (-1,)])
        self.assertEqual(covers.copy_rows(FREE, PAIRS, ((1, 0, 3, 2), (0, 2, 1, 3))),
                         [(), (1,), (1, 2), (1, 2, 1)])

    def test_lists_are_not_shared(self):
        images = ((1, 0), (1, 0))
        covers.copy_rows(FREE, PAIRS, images).clear()
        self.assertEqual(covers.copy_rows(FREE, PAIRS, images), [(), (1,)])


class Covers(unittest.TestCase):
    def test_against_search(self):
        for polygon, pairs, images in covered():
            if len(polygon[1]) * degree_of(images) <= 60:
                self.assertEqual(covers.cover(polygon, pairs, images), slow_cover(polygon, pairs, images)
                                 if pairs else (polygon, ()))

    def test_what_a_cover_is(self):
        for polygon, pairs, images in covered():
            degree = degree_of(images)
            larger, glued = covers.cover(polygon, pairs, images)
            self.assertIs(is_polygon(larger), True)
            self.assertIs(is_pairing(larger, glued), True)
            self.assertIs(fits(larger, glued), True)
            self.assertEqual(index_of(larger, glued), degree * index_of(polygon, pairs))
            above, below = exact_euler_number(polygon, pairs)
            told = Fraction(degree * above, below)
            self.assertEqual(exact_euler_number(larger, glued), (told.numerator, told.denominator))

    def test_group_of_a_cover(self):
        for polygon, pairs, images in covered()[::2]:
            larger, glued = covers.cover(polygon, pairs, images)
            first = polygon[1][0]
            listed = some_words(51, 3, 0, 8) + [row_motion(polygon, pairs, row) for row in
                                                ((), (1,), (-1, 1), (1, 1), (1, 1, 1))[:1 + 4 * bool(pairs)]]
            for k in range(len(glued)):
                listed.append(pair_motion(larger, glued, k))
            for word in listed:
                if len(word) > 60:
                    continue
                row, place = slow_part(polygon, pairs, word + first)
                told = place == first and slow_permutation(images, degree_of(images), row)[0] == 0
                self.assertIs(covers.in_lower(polygon, pairs, images, word), told)
                self.assertIs(in_group(larger, glued, word), told)

    def test_degree_one(self):
        for polygon, pairs in fitting_gluings():
            images = ((0,),) * len(pairs)
            self.assertEqual(covers.cover(polygon, pairs, images), (polygon, pairs))
            self.assertIs(same_group(polygon, pairs, *covers.cover(polygon, pairs, images)), True)
            self.assertIs(covers.is_regular(polygon, pairs, images), True)
            self.assertEqual(covers.copy_rows(polygon, pairs, images), [()])

    def test_example(self):
        images = ((1, 0),) * 3
        self.assertEqual(covers.copy_rows(ONE, mirrors(ONE), images), [(), (1,)])
        polygon, pairs = covers.cover(ONE, mirrors(ONE), images)
        self.assertEqual(polygon, ((3, 4, 2), ("", "0")))
        # The pair of a mirror is met at the number 0 alone: the side of copy 1, then that of copy 0.
        self.assertEqual(pairs, ((("0", "1"), ("", "1")), (("0", "2"), ("", "2"))))

    def test_mirrors_that_stay_and_mirrors_that_become_pairs(self):
        images = ((0, 1), (0, 1), (1, 0))
        self.assertEqual(covers.cover(ONE, mirrors(ONE), images),
                         (((3, 4, 2), ("", "2")), ((("", "0"), ("", "0")), (("", "1"), ("", "1")),
                                                   (("2", "0"), ("2", "0")), (("2", "1"), ("2", "1")))))
        images = ((1, 0), (0, 1), (1, 0))
        orders = (4, 2, 3)
        self.assertEqual(covers.cover((orders, ("",)), mirrors(ONE), images),
                         ((orders, ("", "0")), ((("", "1"), ("", "1")), (("0", "2"), ("", "2")),
                                                (("0", "1"), ("0", "1")))))

    def test_no_pairs(self):
        self.assertEqual(covers.cover(WHOLE, (), ()), (WHOLE, ()))
        self.assertEqual(covers.copy_rows(WHOLE, (), ()), [()])
        self.assertIs(covers.is_regular(WHOLE, (), ()), True)
        self.assertIs(covers.in_lower(WHOLE, (), (), "00"), True)
        self.assertIs(covers.in_lower(WHOLE, (), (), "0"), False)


class Limits(unittest.TestCase):
    def test_sixty_tiles(self):
        for many, degree, told in ((30, 2, True), (31, 2, False), (20, 3, True), (15, 4, True),
                                   (21, 3, False), (16, 4, False), (60, 1, True)):
            polygon = ((0, 0, 0), tuple(ball((0, 0, 0), 6)[:many]))
            pairs = mirrors(polygon)
            steps = [tuple(range(degree))] * len(pairs)
            for s in range(degree - 1):
                row = list(range(degree))
                row[s], row[s + 1] = s + 1, s
                steps[s] = tuple(row)
            if told:
                self.assertEqual(len(covers.cover(polygon, pairs, tuple(steps))[0][1]), many * degree)
            else:
                with self.assertRaises(TooLarge):
                    covers.cover(polygon, pairs, tuple(steps))
                self.assertEqual(len(covers.copy_rows(polygon, pairs, tuple(steps))), degree)
                self.assertIs(covers.in_lower(polygon, pairs, tuple(steps), "00"), True)

    def test_sixty_letters(self):
        path = "012" * 20
        for word, told in ((path, False), (path[:59], True)):
            polygon = ((0, 0, 0), (word,))
            pairs = mirrors(polygon)
            letter = {"0": 1, "1": 2, "2": 0}[word[-1]]
            images = tuple((1, 0) if k == letter else (0, 1) for k in range(3))
            if told:
                larger = covers.cover(polygon, pairs, images)[0][1]
                self.assertEqual(larger, (word, word + str(letter)))
            else:
                with self.assertRaises(TooLarge):
                    covers.cover(polygon, pairs, images)
                self.assertEqual(covers.copy_rows(polygon, pairs, images), [(), (letter + 1,)])


class Regular(unittest.TestCase):
    def test_against_products(self):
        met = set()
        for polygon, pairs, images in covered():
            if pairs:
                degree = degree_of(images)
                every = products_of(list(images))
                told = all(row == tuple(range(degree)) for row in every if row[0] == 0)
                self.assertIs(covers.is_regular(polygon, pairs, images), told)
                met.add((degree, told))
        self.assertEqual(met, {(1, True), (2, True), (3, True), (3, False), (4, True), (4, False)})

    def test_by_definition(self):
        for polygon, pairs, images in covered()[::6]:
            larger, glued = covers.cover(polygon, pairs, images)
            lower = [pair_motion(larger, glued, k) for k in range(len(glued))]
            upper = [pair_motion(polygon, pairs, k) for k in range(len(pairs))]
            words = [normal(polygon[0], g[:60]) for g in upper if len(g) <= 20]
            if len(words) < len(upper) or any(len(word) > 20 for word in lower):
                continue
            told = all(covers.in_lower(polygon, pairs, images, g[::step] + word + g[::-step])
                       for g in words for word in lower for step in (1, -1))
            self.assertIs(covers.is_regular(polygon, pairs, images), told)

    def test_small_ones(self):
        for images, told in ((((1, 0), (1, 0)), True), (((1, 2, 0), (0, 1, 2)), True),
                             (((1, 0, 2), (0, 2, 1)), False), (((1, 2, 0), (1, 0, 2)), False),
                             (((1, 0, 3, 2), (2, 3, 0, 1)), True), (((1, 2, 3, 0), (2, 3, 0, 1)), True),
                             (((1, 2, 3, 0), (1, 0, 2, 3)), False), (((1, 2, 3, 0), (0, 3, 2, 1)), False),
                             (((1, 2, 3, 0), (3, 2, 1, 0)), False)):
            self.assertIs(covers.is_regular(FREE, PAIRS, images), told, images)


class Errors(unittest.TestCase):
    def test_no_answer(self):
        # Not satisfied, not transitive, neither of the two.
        for images in (((1, 0), (0, 1), (0, 1)), ((0, 1),) * 3, ((1, 0, 2), (0, 1, 2), (0, 1, 2)),
                       ((1, 2, 0), (1, 2, 0), (1, 2, 0)), ((1, 0, 2), (1, 0, 2), (0, 1, 2))):
            for call in CALLS:
                with self.assertRaises(NoAnswer):
                    call(ONE, mirrors(ONE), images)
            for word in ("", "3", "0" * 61):
                with self.assertRaises(NoAnswer):
                    covers.in_lower(ONE, mirrors(ONE), images, word)

    def test_wrong_images(self):
        for call in CALLS:
            for images in ((), ((0, 1),) * 2, ((0, 0),) * 3, ((0, 1, 2, 3, 4),) * 3, ((0,), (0,), (0, 1))):
                with self.assertRaises(NotImages):
                    call(ONE, mirrors(ONE), images)
        with self.assertRaises(NotImages):
            covers.in_lower(ONE, mirrors(ONE), (), "3")

    def test_wrong_words(self):
        for images in (((1, 0),) * 3, ((0,),) * 3):
            for word in ("3", "0" * 61):
                with self.assertRaises(NotWord):
                    covers.in_lower(ONE, mirrors(ONE), images, word)
            self.assertIs(covers.in_lower(ONE, mirrors(ONE), images, "0" * 60), True)

    def test_wrong_polygons_and_pairings(self):
        for polygon, pairs, error in wrong_gluings():
            for images in ((), ((0, 0),)):
                for call in CALLS:
                    self.assertRaises(error, call, polygon, pairs, images)
                self.assertRaises(error, covers.in_lower, polygon, pairs, images, "3")
        self.assertIs(covers.in_lower(TWO, PAIRS, ((0,), (0,)), "01"), True)


if __name__ == "__main__":
    unittest.main()
