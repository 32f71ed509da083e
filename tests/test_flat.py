"""Promises [220] to [224]: the places of the tiles of flat floors, and shifts."""

import unittest
from itertools import permutations

from foldfloor import flat
from foldfloor.errors import NoAnswer, NotFlat, NotOrders, NotWord, TooLarge
from foldfloor.rings import ball
from foldfloor.words import Tiles, length, normal
from tests.gluings import reference
from tests.reference import ALL, LETTERS, all_words, order_of
from tests.test_polygons import WRONG_ORDERS
from tests.test_words import some_words

ARRANGED = sorted({orders for told in ((3, 3, 3), (2, 4, 4), (2, 3, 6)) for orders in permutations(told)})

NOT_FLAT = [orders for orders in ALL if orders not in ARRANGED] + [
    (2, 4, 3), (2, 3, 7), (2, 6, 6), (4, 4, 4), (3, 3, 6), (2, 2, 0), (0, 3, 3), (4, 0, 4), (2, 3, 0),
    (0, 0, 0), (2, 2, 2), (12, 12, 2)]


def letters_of(orders):
    """The middle letter, and the two others, the sixth or else the greater one last."""
    for middle in LETTERS:
        others = [letter for letter in LETTERS if letter != middle]
        low, high = [order_of(orders, middle, other) for other in others]
        if sorted(orders) == [2, 4, 4] and low == high == 4:
            return middle, others[0], others[1]
        if sorted(orders) == [2, 3, 6] and sorted([low, high]) == [3, 6]:
            return middle, others[0 if low == 3 else 1], others[0 if low == 6 else 1]
    raise AssertionError("no such letters")


def slow_bend(orders, i, j):
    """The c of [221]."""
    if order_of(orders, i, j) == 2:
        return 0
    if sorted(orders) == [2, 4, 4] and i == letters_of(orders)[0]:
        return 2
    if sorted(orders) == [2, 3, 6]:
        middle, _, sixth = letters_of(orders)
        if (i, j) == (sixth, middle):
            return 3
    return 1


def slow_place(orders, word):
    """The place of a tile, letter by letter."""
    place = {"0": 1, "1": 1, "2": 1}
    for i in word[::-1]:
        place = {j: -place[i] if j == i else place[j] + slow_bend(orders, i, j) * place[i] for j in LETTERS}
    return place["0"], place["1"], place["2"]


def slow_marks(orders):
    if sorted(orders) == [3, 3, 3]:
        return 1, 1, 1
    middle, _, last = letters_of(orders)
    told = {letter: 1 for letter in LETTERS}
    told[middle] = 2
    if sorted(orders) == [2, 3, 6]:
        told[last] = 3
    return told["0"], told["1"], told["2"]


def slow_slopes(orders, place):
    if sorted(orders) == [3, 3, 3]:
        return [place[1], place[2], place[1] + place[2]]
    middle, _, last = letters_of(orders)
    y, z = place[int(middle)], place[int(last)]
    if sorted(orders) == [2, 4, 4]:
        return [y, z, y + z, 2 * y + z]
    return [y, z, y + z, y + 2 * z, y + 3 * z, 2 * y + 3 * z]


def height_told(orders):
    return {(3, 3, 3): 3, (2, 4, 4): 4, (2, 3, 6): 6}[tuple(sorted(orders))]


def added(one, other):
    return tuple(x + y for x, y in zip(one, other))


def all_tuples(most):
    numbers = range(-most, most + 1)
    return [(x, y, z) for x in numbers for y in numbers for z in numbers]


class Floors(unittest.TestCase):
    def test_all_arrangements(self):
        self.assertEqual(len(ARRANGED), 1 + 3 + 6)
        for orders in ARRANGED:
            self.assertIs(flat.has_places(orders), True)
            self.assertEqual(flat.height(orders), height_told(orders))
            self.assertEqual(flat.marks(orders), slow_marks(orders))
            self.assertEqual(sum(flat.marks(orders)), flat.height(orders))

    def test_marks(self):
        for orders, told in (((3, 3, 3), (1, 1, 1)), ((4, 4, 2), (1, 2, 1)), ((2, 4, 4), (1, 1, 2)),
                             ((4, 2, 4), (2, 1, 1)), ((3, 6, 2), (1, 2, 3)), ((6, 3, 2), (3, 2, 1)),
                             ((2, 3, 6), (3, 1, 2)), ((2, 6, 3), (1, 3, 2)), ((3, 2, 6), (2, 1, 3)),
                             ((6, 2, 3), (2, 3, 1))):
            self.assertEqual(flat.marks(orders), told)

    def test_other_floors(self):
        for orders in NOT_FLAT:
            self.assertIs(flat.has_places(orders), False)
            self.assertRaises(NotFlat, flat.height, orders)
            self.assertRaises(NotFlat, flat.marks, orders)


class Places(unittest.TestCase):
    def test_by_definition(self):
        for orders in ARRANGED:
            self.assertEqual(flat.place(orders, ""), (1, 1, 1))
            for word in all_words(4) + some_words(121, 40, 5, 60):
                place = flat.place(orders, word)
                self.assertEqual(place, slow_place(orders, word))
                numbers = [mark * number for mark, number in zip(slow_marks(orders), place)]
                self.assertEqual(sum(numbers), height_told(orders))

    def test_same_for_all_words_of_a_tile(self):
        for orders in ARRANGED:
            places = {}
            floor = reference(orders)
            for word in all_words(6):
                tile = floor.normal(word)
                self.assertEqual(places.setdefault(tile, flat.place(orders, word)), flat.place(orders, word))
            self.assertEqual(len(set(places.values())), len(places))
            for word in some_words(122, 30, 20, 60):
                self.assertEqual(flat.place(orders, word), flat.place(orders, normal(orders, word)))

    def test_slopes(self):
        for orders in ARRANGED:
            for word in some_words(123, 20, 0, 60):
                place = flat.place(orders, word)
                self.assertEqual(flat.slopes(orders, place), slow_slopes(orders, place))
            for numbers in ((0, 0, 0), (1, 2, 3), (-10 ** 30, 5, 10 ** 31)):
                self.assertEqual(flat.slopes(orders, numbers), slow_slopes(orders, numbers))

    def test_order_of_the_slopes(self):
        self.assertEqual(flat.slopes((3, 3, 3), (100, 1, 10)), [1, 10, 11])
        self.assertEqual(flat.slopes((4, 4, 2), (100, 1, 10)), [1, 10, 11, 12])
        self.assertEqual(flat.slopes((2, 4, 4), (100, 10, 1)), [1, 10, 11, 12])
        self.assertEqual(flat.slopes((4, 2, 4), (1, 100, 10)), [1, 10, 11, 12])
        self.assertEqual(flat.slopes((3, 6, 2), (100, 1, 10)), [1, 10, 11, 21, 31, 32])
        self.assertEqual(flat.slopes((6, 3, 2), (10, 1, 100)), [1, 10, 11, 21, 31, 32])
        self.assertEqual(flat.slopes((2, 3, 6), (10, 100, 1)), [1, 10, 11, 21, 31, 32])

    def test_lists_are_not_shared(self):
        flat.slopes((3, 3, 3), (1, 1, 1)).clear()
        self.assertEqual(flat.slopes((3, 3, 3), (1, 1, 1)), [1, 1, 2])


class IsPlace(unittest.TestCase):
    def test_all_small_tuples(self):
        for orders in ARRANGED:
            # Tiles with numbers up to 7 have at most so many letters.
            places = {flat.place(orders, tile): tile for tile in ball(orders, 30)}
            for numbers in all_tuples(7):
                told = numbers in places
                self.assertIs(flat.is_place(orders, numbers), told, (orders, numbers))
                if told:
                    self.assertEqual(flat.tile_at(orders, numbers), places[numbers])
                    self.assertEqual(flat.steps_to(orders, numbers), len(places[numbers]))
                else:
                    self.assertRaises(NoAnswer, flat.tile_at, orders, numbers)
                    self.assertRaises(NoAnswer, flat.steps_to, orders, numbers)

    def test_by_the_rule(self):
        for orders in ARRANGED:
            whole = height_told(orders)
            for numbers in all_tuples(4):
                marked = sum(mark * number for mark, number in zip(slow_marks(orders), numbers))
                told = marked == whole and all(slope % whole for slope in slow_slopes(orders, numbers))
                self.assertIs(flat.is_place(orders, numbers), told)

    def test_large_integers(self):
        large = 3 * 10 ** 40
        self.assertIs(flat.is_place((3, 3, 3), (1 - 2 * large, 1 + large, 1 + large)), True)
        self.assertIs(flat.is_place((3, 3, 3), (1 - 2 * large, 2 + large, large)), False)
        self.assertIs(flat.is_place((3, 3, 3), (2 - 2 * large, 1 + large, 1 + large)), False)
        place = (1 - 2 * large, 1 + large, 1 + large)
        self.assertEqual(flat.steps_to((3, 3, 3), place), 4 * 10 ** 40)
        self.assertRaises(TooLarge, flat.tile_at, (3, 3, 3), place)
        self.assertRaises(NoAnswer, flat.tile_at, (3, 3, 3), (large, large, large))
        self.assertRaises(NoAnswer, flat.steps_to, (3, 3, 3), (large, large, large))


class Tiled(unittest.TestCase):
    def test_steps(self):
        for orders in ARRANGED:
            floor = Tiles(orders)
            for word in some_words(124, 40, 0, 60):
                place = flat.place(orders, word)
                self.assertEqual(flat.steps_to(orders, place), len(floor.normal(word)))
                self.assertEqual(flat.steps_to(orders, place), length(orders, word))
                whole = height_told(orders)
                told = sum(abs(slope // whole) for slope in slow_slopes(orders, place))
                self.assertEqual(flat.steps_to(orders, place), told)
                self.assertEqual(flat.tile_at(orders, place), floor.normal(word))
                self.assertIs(flat.is_place(orders, place), True)

    def test_sixty_letters(self):
        for orders in ARRANGED:
            bends = {(i, j): slow_bend(orders, i, j) for i in LETTERS for j in LETTERS if i != j}
            for word in ("012" * 30, "210" * 30, "1021" * 30):
                floor = Tiles(orders)
                for many in range(55, 70):
                    tile = floor.normal(word[:many])
                    place = [1, 1, 1]
                    for i in tile[::-1]:
                        here = place[int(i)]
                        place = [-here if j == i else place[int(j)] + bends[(i, j)] * here for j in LETTERS]
                    self.assertEqual(flat.steps_to(orders, tuple(place)), len(tile))
                    if len(tile) > 60:
                        self.assertRaises(TooLarge, flat.tile_at, orders, tuple(place))
                    else:
                        self.assertEqual(flat.tile_at(orders, tuple(place)), tile)
        self.assertEqual(len(Tiles((3, 3, 3)).normal("012" * 30)), 90)


class Shifts(unittest.TestCase):
    def test_by_definition(self):
        for orders in ARRANGED:
            many = set()
            for word in all_words(4) + some_words(125, 60, 4, 60):
                found = set()
                for tile in ["", "0", "1", "2"]:
                    here, there = slow_place(orders, tile), slow_place(orders, word + tile)
                    found.add(tuple(x - y for x, y in zip(there, here)))
                told = len(found) == 1
                self.assertIs(flat.is_shift(orders, word), told)
                many.add(told)
                if told:
                    self.assertEqual(flat.shift_of(orders, word), found.pop())
                    for tile in some_words(126, 4, 0, 20):
                        self.assertEqual(slow_place(orders, word + tile),
                                         added(slow_place(orders, tile), flat.shift_of(orders, word)))
                else:
                    self.assertRaises(NoAnswer, flat.shift_of, orders, word)
            self.assertEqual(many, {True, False})

    def test_sums(self):
        for orders in ARRANGED:
            shifts = [word for word in ball(orders, 12) if flat.is_shift(orders, word)]
            self.assertGreater(len(shifts), 6)
            for one, other in zip(shifts, shifts[3:] + shifts[:3]):
                told = added(flat.shift_of(orders, one), flat.shift_of(orders, other))
                self.assertEqual(flat.shift_of(orders, one + other), told)
                self.assertEqual(normal(orders, one + other), normal(orders, other + one))

    def test_motions_but_for_shifts(self):
        for orders in ARRANGED:
            tiles = ball(orders, 8)
            classes = []
            for tile in tiles:
                if not any(flat.is_shift(orders, other[::-1] + tile) for other in classes):
                    classes.append(tile)
            self.assertEqual(len(classes), {3: 6, 4: 8, 6: 12}[height_told(orders)])

    def test_small_ones(self):
        self.assertEqual(flat.shift_of((3, 3, 3), ""), (0, 0, 0))
        for word in ("0", "01", "010", "012", "12"):
            self.assertIs(flat.is_shift((3, 3, 3), word), False)
        self.assertIs(flat.is_shift((3, 3, 3), "0121"), True)
        self.assertEqual(flat.shift_of((3, 3, 3), "1210"), (6, -3, -3))


class Errors(unittest.TestCase):
    def test_errors_in_their_order(self):
        words = ("", "0", "3", "0" * 61, "0 ")
        numbers = ((1, 1, 1), (0, 0, 0), (10 ** 20, 0, 0))
        for wrong, error in [(orders, NotOrders) for orders in WRONG_ORDERS] + [
                (orders, NotFlat) for orders in NOT_FLAT]:
            for call in (flat.height, flat.marks):
                self.assertRaises(error, call, wrong)
            for call in (flat.place, flat.is_shift, flat.shift_of):
                for word in words:
                    self.assertRaises(error, call, wrong, word)
            for call in (flat.slopes, flat.is_place, flat.tile_at, flat.steps_to):
                for place in numbers:
                    self.assertRaises(error, call, wrong, place)
        for orders in WRONG_ORDERS:
            self.assertRaises(NotOrders, flat.has_places, orders)
        for orders in ARRANGED:
            for call in (flat.place, flat.is_shift, flat.shift_of):
                for word in words[2:]:
                    self.assertRaises(NotWord, call, orders, word)


class Example(unittest.TestCase):
    def test_example(self):
        self.assertEqual(flat.place((3, 3, 3), "0"), (-1, 2, 2))
        self.assertEqual(flat.place((3, 3, 3), "10"), (1, -2, 4))
        self.assertEqual(flat.slopes((3, 3, 3), (1, -2, 4)), [-2, 4, 2])
        self.assertEqual(flat.steps_to((3, 3, 3), (1, -2, 4)), 2)
        self.assertEqual(flat.tile_at((3, 3, 3), (1, -2, 4)), "10")
        self.assertEqual(flat.shift_of((3, 3, 3), "0121"), (-6, 3, 3))
        self.assertIs(flat.is_shift((3, 3, 3), "12"), False)
        self.assertRaises(NoAnswer, flat.shift_of, (3, 3, 3), "12")


if __name__ == "__main__":
    unittest.main()
