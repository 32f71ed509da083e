"""Promises [200] to [207]: motions, their orders and kinds, and where mirrors and turns stand."""

import random
import unittest
from math import gcd

from foldfloor import motions
from foldfloor.errors import NoAnswer, NotOrders, NotWord
from foldfloor.orders import check_word, kind_of
from foldfloor.rings import ball
from foldfloor.words import Tiles
from tests.gluings import reference
from tests.reference import ALL, FLAT, LETTERS, ROUND, WIDE, all_words, order_of
from tests.test_polygons import WRONG_ORDERS
from tests.test_words import some_words

PAIRS = ["01", "02", "12"]

WORD_CALLS = (motions.order_of_motion, motions.kind_of_motion, motions.mirror_place, motions.turn_place)

TWO_CALLS = (motions.conjugate, motions.moved)


def slow_order(orders, word, most=24):
    """The least power that is the empty word, or None."""
    floor = Tiles(orders)
    power = ""
    for k in range(1, most + 1):
        power = floor.normal(power + word)
        if power == "":
            return k
    return None


def slow_mirrors(orders, most):
    """The words of the mirrors of the sides of all tiles of at most so many letters."""
    floor = reference(orders)
    return {floor.normal(tile + letter + tile[::-1]) for tile in all_words(most) for letter in LETTERS}


def slow_kind(orders, word, mirrors):
    """The kind of a motion of at most 7 letters, by the definitions."""
    word = reference(orders).normal(word)
    if word == "":
        return "rest"
    if word in mirrors:
        return "mirror"
    # On a floor that is not round, no turn has a greater order than a corner.
    order = slow_order(orders, word, 24 if kind_of(orders) == "round" else 12)
    if len(word) % 2 == 0:
        return "shift" if order is None else "turn"
    return "glide" if order is None else "turned mirror"


def some_turns(orders, seed, many, most):
    """Turns of a floor, each as u, i, j, k, with the normal word of the motion."""
    source = random.Random(seed)
    floor = Tiles(orders)
    corners = [pair for pair in PAIRS if order_of(orders, *pair) != 0]
    found = []
    for word in some_words(seed, many if corners else 0, 0, most):
        pair = source.choice(corners)
        k = source.randint(1, order_of(orders, *pair) - 1)
        found.append(((word, pair[0], pair[1], k), floor.normal(word + pair * k + word[::-1])))
    return found


class Orders(unittest.TestCase):
    def test_against_powers(self):
        for orders in ROUND + FLAT[:4] + WIDE[:3]:
            for word in some_words(101, 12, 0, 6) + ["", "0", "01", "12", "02", "012"]:
                self.assertEqual(motions.order_of_motion(orders, word), slow_order(orders, word, 12))

    def test_round_floors(self):
        # A turn of the order m, with a mirror that all are exchanged with, has the order m or 2 m.
        for m in range(2, 13):
            told = m if m % 2 == 0 else 2 * m
            self.assertEqual(motions.order_of_motion((m, 2, 2), "01"), m)
            self.assertEqual(motions.order_of_motion((m, 2, 2), "012"), told)
            self.assertEqual(motions.order_of_motion((2, 2, m), "021"), told)
        for orders, told in (((3, 3, 2), 4), ((3, 4, 2), 6), ((2, 3, 5), 10), ((5, 3, 2), 10)):
            self.assertEqual(motions.order_of_motion(orders, "012"), told)

    def test_all_tiles_of_round_floors(self):
        for orders in ROUND + [(11, 2, 2), (9, 2, 2), (12, 2, 2)]:
            floor = Tiles(orders)
            for tile in ball(orders, 15):
                found = motions.order_of_motion(orders, tile)
                power = ""
                for _ in range(found - 1):
                    power = floor.normal(power + tile)
                    self.assertNotEqual(power, "")
                self.assertEqual(floor.normal(power + tile), "")

    def test_turns(self):
        for orders in FLAT + WIDE:
            for (_, one, other, k), word in some_turns(orders, 102, 12, 19):
                m = order_of(orders, one, other)
                self.assertEqual(motions.order_of_motion(orders, word), m // gcd(m, k))

    def test_endless(self):
        for orders, word in (((3, 3, 3), "0121"), ((3, 3, 3), "012"), ((3, 3, 3), "012" * 20), ((0, 0, 0), "01"),
                             ((0, 3, 2), "01"), ((3, 7, 2), "012" * 3), ((2, 2, 0), "02"), ((2, 2, 0), "021"),
                             ((12, 12, 12), "012" * 20), ((2, 0, 0), "1212")):
            self.assertIsNone(motions.order_of_motion(orders, word))
            # [206]: the length of a power is at least the exponent.
            floor = Tiles(orders)
            self.assertTrue(all(len(floor.normal(word * k)) >= k for k in range(1, 7)))

    def test_conjugates_have_the_order(self):
        for orders in ALL:
            for word, by in zip(some_words(103, 5, 0, 9), some_words(104, 5, 0, 9)):
                other = motions.conjugate(orders, word, by)
                self.assertEqual(motions.order_of_motion(orders, other), motions.order_of_motion(orders, word))
                self.assertEqual(motions.kind_of_motion(orders, other), motions.kind_of_motion(orders, word))


class Kinds(unittest.TestCase):
    def test_against_search(self):
        found = {"round": set(), "flat": set(), "wide": set()}
        for orders in ALL:
            mirrors = slow_mirrors(orders, 3)
            for word in all_words(4) + some_words(105, 6, 5, 7):
                told = slow_kind(orders, word, mirrors)
                self.assertEqual(motions.kind_of_motion(orders, word), told, (orders, word))
                found[kind_of(orders)].add(told)
        self.assertEqual(found["round"], {"rest", "mirror", "turn", "turned mirror"})
        for kind in ("flat", "wide"):
            self.assertEqual(found[kind], {"rest", "mirror", "turn", "shift", "glide"})

    def test_sixty_letters(self):
        for orders in ((3, 3, 3), (2, 4, 4), (3, 7, 2), (0, 0, 0), (12, 12, 12)):
            way = "012" * 9
            self.assertEqual(motions.kind_of_motion(orders, way + "1" + way[::-1]), "mirror")
            self.assertEqual(motions.kind_of_motion(orders, way + way[::-1]), "rest")
            self.assertEqual(motions.kind_of_motion(orders, "012" * 20), "shift")
            self.assertEqual(motions.kind_of_motion(orders, "012" * 19), "glide")
        self.assertEqual(motions.kind_of_motion((3, 3, 3), way + "01" + way[::-1]), "turn")

    def test_words_of_one_tile(self):
        for word in ("010", "101", "22101", "0" + "12" * 3 + "10"):
            self.assertEqual(motions.kind_of_motion((3, 3, 3), word), "mirror")
        self.assertEqual(motions.kind_of_motion((3, 3, 3), "010101"), "rest")


class Conjugates(unittest.TestCase):
    def test_against_search(self):
        for orders in ALL:
            floor = reference(orders)
            for word, by in zip(some_words(106, 8, 0, 8), some_words(107, 8, 0, 6)):
                told = floor.normal(by[::-1] + word + by)
                self.assertEqual(motions.conjugate(orders, word, by), told)

    def test_long_words(self):
        # The conjugate may have more letters than the words that are given.
        self.assertEqual(motions.conjugate((0, 0, 0), "0", "12" * 30), "21" * 30 + "0" + "12" * 30)
        self.assertEqual(motions.conjugate((0, 0, 0), "012" * 20, "012" * 20), "012" * 20)
        self.assertEqual(motions.conjugate((3, 3, 3), "01", "0"), "10")
        self.assertEqual(motions.conjugate((3, 3, 3), "", "012"), "")

    def test_motions_of_an_order_have_short_conjugates(self):
        for orders in FLAT + WIDE:
            for (tile, one, other, k), word in some_turns(orders, 108, 4, 19):
                found = motions.conjugate(orders, word, tile)
                self.assertTrue(set(found) <= {one, other})


class MirrorPlaces(unittest.TestCase):
    def check(self, orders, word):
        tile, letter = motions.mirror_place(orders, word)
        self.assertIn(letter, LETTERS)
        self.assertIsNone(check_word(tile))
        floor = Tiles(orders)
        self.assertEqual(floor.normal(tile + letter + tile[::-1]), floor.normal(word))

    def test_mirrors(self):
        for orders in ALL:
            for tile in some_words(109, 8, 0, 29):
                for letter in LETTERS:
                    self.check(orders, tile + letter + tile[::-1])
                    self.check(orders, Tiles(orders).normal(tile + letter + tile[::-1]))

    def test_no_mirrors(self):
        for orders in ALL:
            mirrors = slow_mirrors(orders, 3)
            for word in all_words(3) + some_words(110, 6, 0, 6):
                if reference(orders).normal(word) in mirrors:
                    self.check(orders, word)
                else:
                    self.assertRaises(NoAnswer, motions.mirror_place, orders, word)


class TurnPlaces(unittest.TestCase):
    def check(self, orders, word):
        tile, one, other, k = motions.turn_place(orders, word)
        self.assertIn(one + other, PAIRS)
        self.assertTrue(1 <= k <= order_of(orders, one, other) - 1)
        self.assertIsNone(check_word(tile))
        floor = Tiles(orders)
        self.assertEqual(floor.normal(tile + (one + other) * k + tile[::-1]), floor.normal(word))
        return one, other

    def test_turns(self):
        for orders in FLAT + WIDE:
            for (tile, one, other, k), word in some_turns(orders, 111, 40, 29):
                if len(word) <= 60:
                    # A turn fixes exactly one corner.
                    self.assertEqual(self.check(orders, word), (one, other))

    def test_all_turns_of_a_corner(self):
        for orders in ((3, 3, 3), (2, 4, 4), (2, 3, 6), (12, 2, 3), (11, 9, 8), (0, 3, 2)):
            for pair in PAIRS:
                for k in range(1, order_of(orders, *pair)):
                    for tile in ("", "2", "10", "0121", "2012012"):
                        word = tile + pair * k + tile[::-1]
                        self.assertEqual(self.check(orders, word), (pair[0], pair[1]))

    def test_no_turns(self):
        for orders in FLAT + WIDE:
            mirrors = slow_mirrors(orders, 3)
            for word in all_words(3) + some_words(112, 6, 0, 7):
                if slow_kind(orders, word, mirrors) == "turn":
                    self.check(orders, word)
                else:
                    self.assertRaises(NoAnswer, motions.turn_place, orders, word)

    def test_round_floors(self):
        for orders in ROUND:
            for word in ("01", "02", "12", "", "0", "012", "0121"):
                self.assertRaises(NoAnswer, motions.turn_place, orders, word)


class Moved(unittest.TestCase):
    def test_against_search(self):
        for orders in ALL:
            floor = reference(orders)
            for word, tile in zip(some_words(113, 8, 0, 9), some_words(114, 8, 0, 9)):
                self.assertEqual(motions.moved(orders, word, tile), floor.normal(word + tile))
                self.assertEqual(motions.moved(orders, word, ""), floor.normal(word))
                self.assertEqual(motions.moved(orders, "", tile), floor.normal(tile))

    def test_long_words(self):
        self.assertEqual(motions.moved((0, 0, 0), "012" * 20, "012" * 20), "012" * 40)
        self.assertEqual(motions.moved((0, 0, 0), "012" * 20, "210" * 20), "")

    def test_second_motion_first(self):
        for orders in ALL:
            for one, other, tile in zip(*[some_words(seed, 3, 0, 9) for seed in (115, 116, 117)]):
                told = motions.moved(orders, one, motions.moved(orders, other, tile))
                self.assertEqual(motions.moved(orders, one + other, tile), told)

    def test_motions_keep_sides(self):
        for orders in ALL:
            for word, tile in zip(some_words(118, 3, 0, 9), some_words(119, 3, 0, 9)):
                for letter in LETTERS:
                    self.assertEqual(motions.moved(orders, word, tile + letter),
                                     Tiles(orders).beyond(motions.moved(orders, word, tile), letter))


class Errors(unittest.TestCase):
    def test_orders_first(self):
        for orders in WRONG_ORDERS:
            for word in ("", "0", "3", "0" * 61):
                for call in WORD_CALLS:
                    self.assertRaises(NotOrders, call, orders, word)
                for call in TWO_CALLS:
                    self.assertRaises(NotOrders, call, orders, word, "0")
                    self.assertRaises(NotOrders, call, orders, "0", word)

    def test_then_words(self):
        for orders in ((3, 3, 3), (2, 3, 3), (0, 0, 0)):
            for word in ("3", "0" * 61, "01 ", "a"):
                for call in WORD_CALLS:
                    self.assertRaises(NotWord, call, orders, word)
                for call in TWO_CALLS:
                    self.assertRaises(NotWord, call, orders, word, "0")
                    self.assertRaises(NotWord, call, orders, "0", word)
            for call in TWO_CALLS:
                self.assertIsInstance(call(orders, "01" * 30, "12" * 30), str)


class Examples(unittest.TestCase):
    def test_examples(self):
        for word, told in (("010", "mirror"), ("01", "turn"), ("0120", "turn"), ("0121", "shift"),
                           ("012", "glide"), ("", "rest")):
            self.assertEqual(motions.kind_of_motion((3, 3, 3), word), told)
        self.assertEqual(motions.order_of_motion((3, 3, 3), "01"), 3)
        self.assertEqual(motions.order_of_motion((3, 3, 3), ""), 1)
        self.assertEqual(motions.order_of_motion((3, 3, 3), "010"), 2)
        longest = ball((2, 3, 5), 15)[-1]
        self.assertEqual(motions.kind_of_motion((2, 3, 5), longest), "turned mirror")
        self.assertEqual(motions.order_of_motion((2, 3, 5), longest), 2)


if __name__ == "__main__":
    unittest.main()
