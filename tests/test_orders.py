"""Promise [1] and [8]: errors, orders, words, kinds of floors."""

import unittest
from fractions import Fraction
from itertools import product

from foldfloor import errors, orders, words
from foldfloor.errors import FoldError, NotOrders, NotWord
from tests.reference import FLAT, ROUND, WIDE

PLAIN = ["NotOrders", "NotWord", "NotSeries", "NotPolygon", "NotPairing", "NotRow", "NotFitting",
         "NotFlat", "NotFinite", "NotImages", "BadNumber", "TooLarge", "NoAnswer", "OpenTrial"]

NO_ORDERS = [(1, 3, 3), (3, 13, 3), (3, 3, -1), (3, 3), (3, 3, 3, 3), (), (-2, 3, 3), (0, 0, 1),
             (2, 10 ** 30, 2), (3, 3, -10 ** 30)]

NO_WORDS = ["3", "01a", " 0", "0\n", "012012-", "0" * 61, "\u0661", "O"]


class Errors(unittest.TestCase):
    def test_base(self):
        self.assertEqual(FoldError.__bases__, (ValueError,))

    def test_plain_errors_are_directly_below_the_base(self):
        for name in PLAIN:
            kind = getattr(errors, name)
            self.assertEqual(kind.__bases__, (FoldError,), name)
            self.assertEqual(str(kind("why")), "why")

    def test_errors_with_a_number(self):
        for name, field in (("BadStep", "at"), ("Malformed", "at"), ("BadJournal", "row")):
            kind = getattr(errors, name)
            self.assertEqual(kind.__bases__, (FoldError,), name)
            for number in (0, 7, 10 ** 20):
                self.assertEqual(getattr(kind(number), field), number)

    def test_nothing_else_is_an_error_class(self):
        kinds = {name for name, kind in vars(errors).items() if isinstance(kind, type)}
        self.assertEqual(kinds, {"FoldError", "BadStep", "Malformed", "BadJournal", *PLAIN})


class Orders(unittest.TestCase):
    def test_all_small_tuples(self):
        good = {0, *range(2, 13)}
        for triple in product(range(-2, 15), repeat=3):
            right = good.issuperset(triple)
            self.assertIs(orders.is_orders(triple), right, triple)
            if right:
                self.assertIsNone(orders.check_orders(triple))
            else:
                with self.assertRaises(NotOrders):
                    orders.check_orders(triple)

    def test_other_tuples(self):
        for wrong in NO_ORDERS:
            self.assertIs(orders.is_orders(wrong), False, wrong)
            for call in (orders.check_orders, orders.kind_of):
                with self.assertRaises(NotOrders):
                    call(wrong)

    def test_true_and_false_are_no_integers(self):
        for wrong in ((False, 3, 3), (3, False, 3), (3, 3, True), (False, False, False)):
            self.assertIs(orders.is_orders(wrong), False)
            with self.assertRaises(NotOrders):
                orders.check_orders(wrong)

    def test_order_of_all_pairs(self):
        told = {"01": 5, "10": 5, "12": 7, "21": 7, "02": 0, "20": 0}
        for one, other in product("012", repeat=2):
            if one == other:
                with self.assertRaises(NotWord):
                    orders.order_of((5, 7, 0), one, other)
            else:
                self.assertEqual(orders.order_of((5, 7, 0), one, other), told[one + other])

    def test_order_of_no_letters(self):
        for one, other in (("0", ""), ("", "1"), ("0", "3"), ("01", "2"), ("2", "12"), ("", "")):
            with self.assertRaises(NotWord):
                orders.order_of((3, 3, 3), one, other)
            with self.assertRaises(NotOrders):
                orders.order_of((3, 1, 3), one, other)

    def test_check_word(self):
        for word in ("", "0", "012", "2" * 59, "012" * 20):
            self.assertIsNone(orders.check_word(word))
        for word in NO_WORDS:
            with self.assertRaises(NotWord):
                orders.check_word(word)

    def test_kinds(self):
        for told, floors in (("round", ROUND), ("flat", FLAT), ("wide", WIDE)):
            for floor in floors:
                self.assertEqual(orders.kind_of(floor), told, floor)

    def test_kinds_of_all_floors(self):
        for floor in product([0, *range(2, 13)], repeat=3):
            total = sum(Fraction(1, order) for order in floor if order)
            told = "round" if total > 1 else "flat" if total == 1 else "wide"
            self.assertEqual(orders.kind_of(floor), told, floor)


class FirstErrors(unittest.TestCase):
    def test_orders_come_first_then_words(self):
        one_word = (words.normal, words.length, words.is_shortest, words.ends, words.inverse)
        two_words = (words.same_tile, words.times)
        for wrong in NO_ORDERS:
            for call in one_word:
                with self.assertRaises(NotOrders):
                    call(wrong, "3")
            for call in two_words:
                with self.assertRaises(NotOrders):
                    call(wrong, "3", "4")
            with self.assertRaises(NotOrders):
                words.left_out(wrong, "3", "4")
            with self.assertRaises(NotOrders):
                words.power(wrong, "3", 99)
            with self.assertRaises(NotOrders):
                words.Tiles(wrong)
        for wrong in NO_WORDS:
            for call in one_word:
                with self.assertRaises(NotWord):
                    call((3, 3, 3), wrong)
            for call in two_words:
                with self.assertRaises(NotWord):
                    call((3, 3, 3), wrong, "")
                with self.assertRaises(NotWord):
                    call((3, 3, 3), "", wrong)


if __name__ == "__main__":
    unittest.main()
