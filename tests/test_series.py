"""Promises [24] to [27]: series of floors."""

import copy
import unittest
from fractions import Fraction
from itertools import product

from foldfloor.errors import BadNumber, NotOrders, NotSeries
from foldfloor.orders import kind_of
from foldfloor.series import expand, is_reduced, series
from tests.reference import ALL, FLAT, ROUND, Reference

NO_FRACTIONS = [([1, 0], [1]), ([0], [1]), ([1], []), ([], []), ([1], [2]), ([1], [0, 1]), ([1], [-1]),
                ([1], [1, 0]), ([1], [1, 2, 0]), ([1, 2, 0], [1, 1]), ([1], [0]), ([], [0])]


def at(polynomial, number):
    return sum(factor * number ** k for k, factor in enumerate(polynomial))


class OfFloors(unittest.TestCase):
    def test_expansions_are_the_counts(self):
        for orders in ALL:
            told = [len(row) for row in Reference(orders).rings(8)]
            self.assertEqual(expand(series(orders), 8), told, orders)

    def test_round_floors(self):
        for orders in ROUND:
            above, below = series(orders)
            self.assertEqual(below, [1])
            told = [len(row) for row in Reference(orders).rings(16)]
            self.assertEqual(above + [0] * (17 - len(above)), told)
            self.assertEqual(above, above[::-1])

    def test_all_round_floors_with_two_orders_two(self):
        for order in range(2, 13):
            for orders in ((2, 2, order), (2, order, 2), (order, 2, 2)):
                above, below = series(orders)
                self.assertEqual(below, [1])
                self.assertEqual(sum(above), 4 * order)
                self.assertEqual(len(above), order + 2)

    def test_identity(self):
        for orders in product((0, 2, 3, 4, 5, 6, 7, 12), repeat=3):
            above, below = series(orders)
            self.assertTrue(is_reduced((above, below)))
            self.assertEqual(below[0], 1)
            self.assertTrue(above[-1] and below[-1])
            if kind_of(orders) == "round":
                continue
            for number in (2, 3, 5, Fraction(7, 3), -3, Fraction(-1, 2)):
                told = 1 - Fraction(3) / (1 + number)
                for order in orders:
                    if order:
                        told += 1 / (Fraction(1 + number) * at([1] * order, number))
                if told:
                    value = Fraction(at(above, 1 / Fraction(number)), at(below, 1 / Fraction(number)))
                    self.assertEqual(1 / value, told, (orders, number))

    def test_flat_floors(self):
        for orders in FLAT:
            numbers = expand(series(orders), 200)
            for n in range(1, 201):
                self.assertTrue(1 <= numbers[n] <= 3 * n)

    def test_wide_floors_grow(self):
        for orders in ((3, 7, 2), (2, 3, 12), (0, 3, 2), (2, 0, 0), (0, 0, 0), (4, 3, 3)):
            self.assertGreater(max(expand(series(orders), 200)), 10 ** 10)

    def test_examples(self):
        self.assertEqual(series((3, 3, 3)), ([1, 1, 1], [1, -2, 1]))
        self.assertEqual(series((0, 0, 0)), ([1, 1], [1, -2]))
        self.assertEqual(series((3, 3, 2)), ([1, 3, 5, 6, 5, 3, 1], [1]))

    def test_no_orders(self):
        for wrong in ((3, 3), (3, 3, 1), (13, 3, 3)):
            with self.assertRaises(NotOrders):
                series(wrong)

    def test_results_share_nothing(self):
        for orders in ((3, 3, 3), (3, 3, 2), (2, 2, 2)):
            first = series(orders)
            told = copy.deepcopy(first)
            first[0].append(1)
            first[1].append(1)
            self.assertEqual(series(orders), told)


class Expand(unittest.TestCase):
    def test_by_hand(self):
        self.assertEqual(expand(([1], [1, -1]), 4), [1, 1, 1, 1, 1])
        self.assertEqual(expand(([1], [1, 1]), 4), [1, -1, 1, -1, 1])
        self.assertEqual(expand(([], [1, 5]), 3), [0, 0, 0, 0])
        self.assertEqual(expand(([1, 2, 3], [1]), 5), [1, 2, 3, 0, 0, 0])
        self.assertEqual(expand(([1, 2, 3], [1]), 1), [1, 2])
        self.assertEqual(expand(([0, 1], [1, -1, -1]), 9), [0, 1, 1, 2, 3, 5, 8, 13, 21, 34])
        self.assertEqual(expand(([-4], [1, 0, 7]), 0), [-4])

    def test_product_with_the_denominator(self):
        for above, below in (([3, -7, 2], [1, 4, -9]), ([0, 0, 10 ** 30], [1, -10 ** 20]),
                             ([1, 1], [1, -2, 3, -4, 5, -6])):
            kept = copy.deepcopy((above, below))
            numbers = expand((above, below), 200)
            self.assertEqual((above, below), kept)
            self.assertEqual(len(numbers), 201)
            for k in range(201):
                total = sum(below[j] * numbers[k - j] for j in range(min(k + 1, len(below))))
                self.assertEqual(total, above[k] if k < len(above) else 0)

    def test_result_is_not_the_numerator(self):
        above = [1, 2, 3]
        found = expand((above, [1]), 2)
        found[0] = 7
        self.assertEqual(above, [1, 2, 3])

    def test_wrong_inputs(self):
        for wrong in NO_FRACTIONS:
            for n in (0, 5, -1, 201):
                with self.assertRaises(NotSeries):
                    expand(wrong, n)
        for n in (-1, 201, 10 ** 20):
            with self.assertRaises(BadNumber):
                expand(([1], [1, -1]), n)


class Reduced(unittest.TestCase):
    def test_by_hand(self):
        for fraction, told in (
                (([1], [1]), True), (([1], [1, -1]), True), (([1, -1], [1, -1]), False),
                (([1, 0, -1], [1, -1]), False), (([1, 1], [1, 0, -1]), False), (([1, 1], [1, -1]), True),
                (([2, 2], [1, 1]), False), (([2], [1, 4]), True), (([2, 4], [1, 3, 2]), False),
                (([6, 10], [1, 7]), True), (([], [1]), True), (([], [1, 1]), False),
                (([], [1, -2, 1]), False), (([0, 1], [1, 5]), True), (([0, 0, 3], [1]), True),
                (([-3, -6], [1, 2]), False), (([1, 2, 3, 4], [1]), True),
                (([2, 1], [1, 1]), True)):
            self.assertIs(is_reduced(fraction), told, fraction)

    def test_products_have_a_common_factor(self):
        def times(one, other):
            found = [0] * (len(one) + len(other) - 1)
            for i, a in enumerate(one):
                for j, b in enumerate(other):
                    found[i + j] += a * b
            return found

        for common in ([1, 3], [1, 0, 2], [-1, 5, 7], [1, -1, 1, -1]):
            for above in ([1], [5, -4], [0, 0, 3]):
                for below in ([1], [1, 9, 9]):
                    sign = common[0]
                    fraction = (times(common, above), times([sign * k for k in common], below))
                    self.assertIs(is_reduced(fraction), False)
                    kept = copy.deepcopy(fraction)
                    is_reduced(fraction)
                    self.assertEqual(fraction, kept)
        self.assertIs(is_reduced(([5, -4], [1, 9, 9])), True)

    def test_wrong_inputs(self):
        for wrong in NO_FRACTIONS:
            with self.assertRaises(NotSeries):
                is_reduced(wrong)


if __name__ == "__main__":
    unittest.main()
