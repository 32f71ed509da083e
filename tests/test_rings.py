"""Promises [20] to [23], [26] and [27]: rings, balls, corners, cells."""

import unittest
from unittest.mock import patch

from foldfloor import rings
from foldfloor.errors import BadNumber, NoAnswer, NotOrders, NotWord, TooLarge
from foldfloor.orders import kind_of
from foldfloor.words import Tiles
from tests.reference import ALL, FLAT, LETTERS, PAIRS, ROUND, Reference, order_of, rank

HEIGHTS = {(2, 2, 2): 3, (3, 2, 2): 4, (2, 5, 2): 6, (3, 3, 2): 6, (2, 3, 3): 6, (3, 4, 2): 9,
           (4, 2, 3): 9, (2, 3, 5): 15}


def slow_cells(orders, tiles):
    """The numbers of tiles, sides and corners, each side and corner made apart."""
    floor = Tiles(orders)
    sides, corners = set(), set()
    for tile in tiles:
        for letter in LETTERS:
            sides.add((letter, frozenset([tile, floor.beyond(tile, letter)])))
        for pair in ("01", "02", "12"):
            many = order_of(orders, *pair)
            if many:
                row = frozenset(floor.normal(tile + (pair * many)[:k]) for k in range(2 * many))
                corners.add((pair, row))
    return [len(tiles), len(sides), len(corners)]


class Rings(unittest.TestCase):
    def test_against_search(self):
        for orders in ALL:
            told = Reference(orders).rings(7)
            for n, row in enumerate(told):
                self.assertEqual(rings.ring(orders, n), row, (orders, n))
                self.assertEqual(rings.counts(orders, n), [len(one) for one in told[:n + 1]])
                self.assertEqual(rings.ball(orders, n), [tile for one in told[:n + 1] for tile in one])

    def test_far_rings(self):
        for orders, n in (((3, 3, 3), 40), ((3, 6, 2), 40), ((2, 2, 0), 40), ((3, 7, 2), 32)):
            floor = Tiles(orders)
            many = rings.counts(orders, n)
            self.assertEqual(len(many), n + 1)
            ball = rings.ball(orders, n)
            self.assertEqual(len(ball), sum(many))
            self.assertEqual(ball, sorted(set(ball), key=rank))
            last = rings.ring(orders, n)
            self.assertEqual(ball[-len(last):], last)
            for tile in last[::7]:
                self.assertEqual(len(tile), n)
                self.assertEqual(floor.normal(tile), tile)
                self.assertIn(floor.beyond(tile, tile[-1]), ball)

    def test_round_floors_end(self):
        for orders in ROUND:
            high = HEIGHTS[orders]
            self.assertEqual(len(rings.ring(orders, high)), 1)
            for n in (high + 1, 40):
                self.assertEqual(rings.ring(orders, n), [])
                self.assertEqual(rings.ball(orders, n), rings.ball(orders, high))
                self.assertEqual(rings.counts(orders, n),
                                 rings.counts(orders, high) + [0] * (n - high))

    def test_flat_floors_are_narrow(self):
        for orders in FLAT:
            for n, many in enumerate(rings.counts(orders, 40)):
                if n:
                    self.assertTrue(1 <= many <= 3 * n)

    def test_example(self):
        self.assertEqual(rings.counts((3, 3, 2), 6), [1, 3, 5, 6, 5, 3, 1])
        self.assertEqual(rings.counts((3, 3, 3), 4), [1, 3, 6, 9, 12])
        self.assertEqual(rings.counts((0, 0, 0), 3), [1, 3, 6, 12])
        self.assertEqual(rings.ring((3, 3, 2), 2), ["01", "02", "10", "12", "21"])
        self.assertEqual(rings.ring((3, 3, 2), 0), [""])
        self.assertEqual(rings.ball((2, 2, 2), 1), ["", "0", "1", "2"])

    def test_bad_numbers(self):
        for call in (rings.ring, rings.ball, rings.counts, rings.cells):
            for n in (-1, 41, -10 ** 20, 10 ** 20):
                for orders in ((3, 3, 3), (0, 0, 0), (2, 2, 2)):
                    with self.assertRaises(BadNumber):
                        call(orders, n)
                with self.assertRaises(NotOrders):
                    call((3, 3, 1), n)
            with self.assertRaises(NotOrders):
                call((3, 3), 3)

    def test_too_large_exactly_above_two_thousand(self):
        # 3 2^(n - 1) tiles in the ring n.
        self.assertEqual(rings.counts((0, 0, 0), 10)[-1], 1536)
        for orders in ((0, 0, 0), (3, 7, 2), (0, 2, 5), (12, 2, 3), (4, 3, 3), (12, 12, 12)):
            many = sum(1 for n in range(41) if self.answers(orders, n))
            for n in range(many, 41):
                for call in (rings.ring, rings.ball, rings.counts, rings.cells):
                    with self.assertRaises(TooLarge):
                        call(orders, n)
            rows = self.far_counts(orders)
            self.assertEqual(many, next((n for n, row in enumerate(rows) if row > 2000), 41))
            self.assertEqual(len(rings.ring(orders, many - 1)), rows[many - 1])

    def test_the_limit_itself_is_allowed(self):
        self.assertEqual(rings.MOST_TILES, 2000)
        for limit, n in ((12, 4), (14, 4), (15, 5)):
            with patch.object(rings, "MOST_TILES", limit):
                for call in (rings.ring, rings.ball, rings.counts, rings.cells):
                    self.assertTrue(call((3, 3, 3), n))
                    with self.assertRaises(TooLarge):
                        call((3, 3, 3), n + 1)
        with patch.object(rings, "MOST_TILES", 5):
            with self.assertRaises(TooLarge):
                rings.ring((3, 3, 2), 6)

    def answers(self, orders, n):
        try:
            return len(rings.counts(orders, n)) == n + 1
        except TooLarge:
            return False

    def far_counts(self, orders):
        """The numbers of the tiles from ring to ring, until one has more than 2000."""
        floor = Tiles(orders)
        rows, row, size = [1], [""], 0
        while rows[-1] <= 2000 and size < 40:
            size += 1
            found = {floor.beyond(tile, letter) for tile in row for letter in LETTERS}
            row = [tile for tile in found if len(tile) == size]
            rows.append(len(row))
        return rows


class Corners(unittest.TestCase):
    def test_around(self):
        for orders in ALL:
            slow = Reference(orders)
            for tile in ("", "0", "21", "1021", "00", "2112", "010101"):
                for pair in PAIRS:
                    many = order_of(orders, *pair)
                    if many == 0:
                        with self.assertRaises(NoAnswer):
                            rings.around(orders, tile, *pair)
                        continue
                    found = rings.around(orders, tile, *pair)
                    here = slow.normal(tile)
                    told = [here]
                    for k in range(2 * many - 1):
                        told.append(slow.normal(told[-1] + pair[k % 2]))
                    self.assertEqual(found, told)
                    self.assertEqual(slow.normal(told[-1] + pair[1]), here)
                    self.check_row(found, many)

    def check_row(self, row, many):
        self.assertEqual(len(set(row)), 2 * many)
        sizes = sorted(len(tile) for tile in row)
        self.assertLess(sizes[0], sizes[1])
        self.assertGreater(sizes[-1], sizes[-2])
        self.assertEqual(sizes[-1] - sizes[0], many)

    def test_long_words(self):
        row = rings.around((0, 12, 12), "012" * 20, "2", "1")
        self.assertEqual(len(set(row)), 24)
        self.assertEqual(row[0], "012" * 20)

    def test_example(self):
        self.assertEqual(rings.around((3, 5, 7), "", "0", "1"), ["", "0", "01", "010", "10", "1"])
        self.assertEqual(rings.around((3, 5, 7), "", "1", "0"), ["", "1", "10", "010", "01", "0"])

    def test_wrong_inputs(self):
        for one, other in (("0", "0"), ("", "1"), ("0", "3"), ("01", "2")):
            for orders in ((3, 3, 3), (0, 0, 0)):
                with self.assertRaises(NotWord):
                    rings.around(orders, "", one, other)
            with self.assertRaises(NotOrders):
                rings.around((3, 3, 1), "", one, other)
        for tile in ("3", "0" * 61):
            with self.assertRaises(NotWord):
                rings.around((0, 3, 3), tile, "0", "1")


class Cells(unittest.TestCase):
    def test_against_counting(self):
        for orders in ALL:
            for n in (0, 1, 2, 5):
                told = slow_cells(orders, rings.ball(orders, n))
                self.assertEqual(rings.cells(orders, n), told, (orders, n))

    def test_whole_round_floors(self):
        for orders in ROUND:
            high = HEIGHTS[orders]
            tiles, sides, corners = rings.cells(orders, high)
            self.assertEqual([tiles, sides, corners], slow_cells(orders, rings.ball(orders, high)))
            self.assertEqual(rings.cells(orders, 40), [tiles, sides, corners])
            self.assertEqual(tiles - sides + corners, 2)
            tiles, sides, corners = rings.cells(orders, high - 1)
            self.assertEqual(tiles - sides + corners, 1)

    def test_tiles_minus_sides_plus_corners(self):
        for orders in ALL:
            if 0 in orders or kind_of(orders) == "round":
                continue
            for n in range(12):
                try:
                    tiles, sides, corners = rings.cells(orders, n)
                except TooLarge:
                    break
                self.assertEqual(tiles - sides + corners, 1)

    def test_no_corners(self):
        self.assertEqual(rings.cells((0, 0, 0), 2), [10, 21, 0])
        self.assertEqual(rings.cells((3, 3, 3), 0), [1, 3, 3])
        self.assertEqual(rings.cells((3, 0, 3), 0), [1, 3, 2])


class Lists(unittest.TestCase):
    def test_results_share_nothing(self):
        for call in (rings.ring, rings.ball, rings.counts, rings.cells):
            first = call((3, 3, 3), 3)
            told = list(first)
            first.append("changed")
            first[0] = None
            self.assertEqual(call((3, 3, 3), 3), told)


if __name__ == "__main__":
    unittest.main()
