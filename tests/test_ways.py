"""Promises [43], [46] to [48] and [50]: shortest ways."""

import unittest
from unittest.mock import patch

from foldfloor import ways
from foldfloor.errors import NotOrders, NotWord, TooLarge
from foldfloor.words import Tiles
from tests.reference import ALL, LETTERS, Reference, all_words, rank, turned
from tests.test_words import some_words


def pairs_of(seed):
    listed = ["", "0", "21", "0102"] + some_words(seed, 4, 3, 6)
    return [(one, other) for one in listed for other in listed]


def slow_number(slow, one, other, known):
    """The number of the shortest ways, by [47]."""
    here = slow.normal(other)
    if here == slow.normal(one):
        return 1
    if here not in known:
        size = slow.distance(one, here)
        nearer = [here + x for x in LETTERS if slow.distance(one, here + x) < size]
        known[here] = sum(slow_number(slow, one, tile, known) for tile in nearer)
    return known[here]


def slow_between(slow, one, other):
    """The tiles on all shortest ways, from the ways themselves."""
    found = set()
    for way in turned(slow.orders, slow.normal(one[::-1] + other)):
        for at in range(len(way) + 1):
            found.add(slow.normal(one + way[:at]))
    return sorted(found, key=rank)


class Distances(unittest.TestCase):
    def test_against_search(self):
        for orders in ALL:
            slow = Reference(orders)
            for one, other in pairs_of(41):
                told = slow.distance(one, other)
                self.assertEqual(ways.distance(orders, one, other), told)
                self.assertEqual(ways.distance(orders, other, one), told)
            self.assertEqual(ways.distance(orders, "", "0102"), len(slow.normal("0102")))

    def test_motions_keep_distances(self):
        for orders in ALL:
            one, other, motion = some_words(42, 3, 20, 30)
            self.assertEqual(ways.distance(orders, one, other),
                             ways.distance(orders, motion + one, motion + other))
            self.assertEqual(ways.count_ways(orders, one, other),
                             ways.count_ways(orders, motion + one, motion + other))

    def test_long(self):
        word = "012" * 20
        self.assertEqual(ways.distance((0, 0, 0), word, word[::-1]), 120)
        self.assertEqual(ways.distance((0, 0, 0), word, word), 0)


class Ways(unittest.TestCase):
    def test_numbers(self):
        for orders in ALL:
            slow = Reference(orders)
            for one, other in pairs_of(43):
                told = slow_number(slow, one, other, {})
                self.assertEqual(ways.count_ways(orders, one, other), told)

    def test_all_ways(self):
        for orders in ALL:
            slow = Reference(orders)
            for one, other in pairs_of(44):
                told = sorted(turned(orders, slow.normal(one[::-1] + other)))
                self.assertEqual(list(ways.all_ways(orders, one, other)), told)
                self.assertEqual(ways.count_ways(orders, one, other), len(told))

    def test_many_ways(self):
        for orders in ((2, 3, 5), (3, 4, 2), (3, 3, 2)):
            longest = Reference(orders).rings({5: 15, 2: 9 if orders[1] == 4 else 6}[orders[2]])[-1][0]
            found = list(ways.all_ways(orders, "", longest))
            self.assertEqual(found, sorted(set(found)))
            self.assertEqual(len(found), ways.count_ways(orders, "", longest))
            self.assertEqual(set(found), turned(orders, longest))

    def test_long_ways(self):
        word = Tiles((4, 4, 2)).normal("01021" * 12)
        for one, other in (("", word), (word[::-1], word)):
            many = ways.count_ways((4, 4, 2), one, other)
            self.assertGreaterEqual(many, 1)
            found = ways.all_ways((4, 4, 2), one, other)
            first = [way for way, _ in zip(found, range(50))]
            self.assertEqual(first, sorted(set(first)))
            self.assertEqual(first[0], Tiles((4, 4, 2)).normal(one[::-1] + other))
            self.assertEqual({len(way) for way in first}, {ways.distance((4, 4, 2), one, other)})

    def test_large_number_of_ways(self):
        # Each of the 19 pairs 02 of the word may be turned.
        word = "021" * 19
        self.assertEqual(ways.count_ways((0, 0, 2), "", word), 2 ** 19)
        self.assertEqual(next(iter(ways.all_ways((0, 0, 2), "", word))), word)

    def test_errors_at_the_first_step(self):
        for arguments, error in ((((3, 3, 1), "3", "3"), NotOrders), (((3, 3, 3), "3", ""), NotWord),
                                 (((3, 3, 3), "", "0" * 61), NotWord)):
            found = ways.all_ways(*arguments)
            with self.assertRaises(error):
                next(found)

    def test_example(self):
        self.assertEqual(list(ways.all_ways((3, 3, 3), "", "010")), ["010", "101"])
        self.assertEqual(ways.count_ways((3, 3, 3), "", "010"), 2)
        self.assertEqual(list(ways.all_ways((3, 3, 3), "01", "01")), [""])
        self.assertEqual(ways.count_ways((3, 3, 3), "01", "01"), 1)


class Between(unittest.TestCase):
    def test_between(self):
        for orders in ALL:
            slow = Reference(orders)
            for one, other in pairs_of(45)[::3]:
                told = slow_between(slow, one, other)
                self.assertEqual(ways.between(orders, one, other), told, (orders, one, other))
                for tile in all_words(1) + ["21", "0102"] + told[:4]:
                    inside = slow.normal(tile) in told
                    self.assertIs(ways.is_between(orders, tile, one, other), inside)

    def test_motions_take_them_along(self):
        for orders in ALL:
            tiles = Tiles(orders)
            one, other, motion = some_words(46, 3, 15, 25)
            found = ways.between(orders, one, other)
            self.assertEqual(found, sorted(set(found), key=rank))
            there = ways.between(orders, motion + one, motion + other)
            self.assertEqual(there, sorted([tiles.normal(motion + tile) for tile in found], key=rank))

    def test_example(self):
        self.assertEqual(ways.between((3, 3, 3), "", "010"), ["", "0", "1", "01", "10", "010"])
        self.assertEqual(ways.between((3, 3, 3), "01", "01"), ["01"])

    def test_two_thousand(self):
        word = "012" * 20
        many = len(ways.between((3, 3, 3), word[::-1], word))
        self.assertEqual(ways.MOST_BETWEEN, 2000)
        with patch.object(ways, "MOST_BETWEEN", many):
            self.assertEqual(len(ways.between((3, 3, 3), word[::-1], word)), many)
        with patch.object(ways, "MOST_BETWEEN", many - 1):
            with self.assertRaises(TooLarge):
                ways.between((3, 3, 3), word[::-1], word)

    def test_far_tiles(self):
        word = "012" * 20
        found = ways.between((0, 0, 0), word[::-1], word)
        self.assertEqual(len(found), 121)
        for tile, told in (("", True), ("0", True), ("012", True), ("1", False), ("02", False)):
            self.assertIs(ways.is_between((0, 0, 0), tile, word[::-1], word), told)


class WrongInputs(unittest.TestCase):
    def test_orders_and_words(self):
        for call in (ways.distance, ways.count_ways, ways.between):
            for wrong in ("3", "0" * 61):
                with self.assertRaises(NotWord):
                    call((3, 3, 3), wrong, "")
                with self.assertRaises(NotWord):
                    call((3, 3, 3), "", wrong)
                with self.assertRaises(NotOrders):
                    call((3, 3, 1), wrong, wrong)
        for at in range(3):
            three = ["", "", ""]
            three[at] = "3"
            with self.assertRaises(NotWord):
                ways.is_between((3, 3, 3), *three)
            with self.assertRaises(NotOrders):
                ways.is_between((3, 3), *three)


if __name__ == "__main__":
    unittest.main()
