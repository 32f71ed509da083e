"""Promises [3] to [7] and [9]: tiles told by words."""

import random
import unittest

from foldfloor import words
from foldfloor.errors import BadNumber, NoAnswer, NotOrders, NotWord
from foldfloor.words import Tiles
from tests.reference import ALL, LETTERS, ROUND, Reference, all_words, rank


def some_words(seed, many, least, most):
    source = random.Random(seed)
    return ["".join(source.choice(LETTERS) for _ in range(source.randint(least, most)))
            for _ in range(many)]


class AgainstSearch(unittest.TestCase):
    def test_short_words(self):
        for orders in ALL:
            slow = Reference(orders)
            tiles = Tiles(orders)
            for word in all_words(6):
                told = slow.normal(word)
                self.assertEqual(tiles.normal(word), told, (orders, word))
                self.assertEqual(tiles.ends(word), slow.ends(word), (orders, word))

    def test_functions(self):
        for orders in ALL:
            slow = Reference(orders)
            for word in some_words(1, 12, 0, 16):
                told = slow.normal(word)
                self.assertEqual(words.normal(orders, word), told)
                self.assertEqual(words.length(orders, word), len(told))
                self.assertIs(words.is_shortest(orders, word), len(told) == len(word))
                self.assertEqual(words.ends(orders, word), slow.ends(word))
                self.assertEqual(words.inverse(orders, word), slow.normal(word[::-1]))

    def test_same_tile(self):
        for orders in ALL:
            slow = Reference(orders)
            listed = all_words(3) + some_words(2, 8, 4, 8)
            for one in listed[::3]:
                for other in listed[::2]:
                    told = slow.normal(one) == slow.normal(other)
                    self.assertIs(words.same_tile(orders, one, other), told)

    def test_first_word_of_all(self):
        for orders in ((3, 3, 2), (2, 2, 2), (4, 4, 2), (0, 3, 2), (12, 2, 3)):
            slow = Reference(orders)
            first = {}
            for word in all_words(6):
                first.setdefault(slow.normal(word), word)
            for tile, word in first.items():
                self.assertEqual(tile, word)
                self.assertEqual(words.normal(orders, word), word)


class LongWords(unittest.TestCase):
    def test_sixty_letters(self):
        for orders in ALL:
            for word in some_words(3, 3, 60, 60) + ["012" * 20, "0102" * 15]:
                told = words.normal(orders, word)
                self.assertEqual(words.normal(orders, told), told)
                self.assertLessEqual(rank(told), rank(word))
                self.assertEqual(len(told) % 2, 0)
                self.assertEqual(words.length(orders, word), len(told))
                self.assertEqual(words.normal(orders, told[:-1]), told[:-1])
                self.assertEqual(words.times(orders, word, words.inverse(orders, word)), "")
                self.assertTrue(words.same_tile(orders, word, told))

    def test_against_tile_after_tile(self):
        for orders in ALL:
            for word in some_words(4, 2, 60, 60):
                tiles = Tiles(orders)
                tile = ""
                for letter in word:
                    tile = tiles.beyond(tile, letter)
                self.assertEqual(words.normal(orders, word), tile)

    def test_known_long_tiles(self):
        self.assertEqual(words.normal((0, 0, 0), "012" * 20), "012" * 20)
        self.assertEqual(words.normal((3, 3, 3), "012" * 20), "012" * 20)
        self.assertEqual(words.normal((12, 12, 12), "01" * 30), "01" * 6)
        self.assertEqual(words.normal((2, 2, 0), "201" * 20), "20" * 20)
        self.assertEqual(words.normal((2, 2, 0), "21" * 29), "12")
        self.assertEqual(words.normal((2, 2, 0), "1" * 59), "1")


def flat_length(word, height, bends, slopes):
    """The length of a tile of a flat floor, by the places and slopes of [221] and [223]."""
    place = [1, 1, 1]
    for letter in word[::-1]:
        i = int(letter)
        here = place[i]
        place = [place[j] + bends[i][j] * here for j in range(3)]
        place[i] = -here
    return sum(abs(slope // height) for slope in slopes(place))


class FlatFloors(unittest.TestCase):
    def check(self, orders, height, bends, slopes):
        tiles = Tiles(orders)
        for word in some_words(17, 40, 0, 60) + some_words(18, 6, 300, 400) + ["012" * 133]:
            told = flat_length(word, height, bends, slopes)
            self.assertEqual(len(tiles.normal(word)), told)
            self.assertEqual(tiles.normal(tiles.normal(word)), tiles.normal(word))

    def test_lengths_from_places(self):
        self.check((3, 3, 3), 3, ((0, 1, 1), (1, 0, 1), (1, 1, 0)),
                   lambda x: (x[1], x[2], x[1] + x[2]))
        self.check((4, 4, 2), 4, ((0, 1, 0), (2, 0, 2), (0, 1, 0)),
                   lambda x: (x[1], x[2], x[1] + x[2], 2 * x[1] + x[2]))
        self.check((3, 6, 2), 6, ((0, 1, 0), (1, 0, 1), (0, 3, 0)),
                   lambda x: (x[1], x[2], x[1] + x[2], x[1] + 2 * x[2], x[1] + 3 * x[2],
                              2 * x[1] + 3 * x[2]))


class FloorsWithoutCorners(unittest.TestCase):
    def test_only_equal_letters_cut_each_other(self):
        tiles = Tiles((0, 0, 0))
        for word in some_words(19, 60, 0, 40) + some_words(20, 5, 400, 400):
            left = ""
            for letter in word:
                left = left[:-1] if left.endswith(letter) else left + letter
            self.assertEqual(tiles.normal(word), left)
            self.assertEqual(tiles.ends(word), left[-1:])


class Lengths(unittest.TestCase):
    def test_beyond_a_side_the_length_differs_by_one(self):
        for orders in ALL:
            tiles = Tiles(orders)
            for word in some_words(5, 6, 0, 20):
                here = len(tiles.normal(word))
                for letter in LETTERS:
                    there = len(tiles.beyond(word, letter))
                    self.assertEqual(abs(here - there), 1)
                    self.assertEqual(letter in tiles.ends(word), there < here)

    def test_longest_tiles_have_three_ends(self):
        for orders, many in (((3, 3, 2), 6), ((2, 2, 2), 3), ((3, 4, 2), 9), ((2, 3, 5), 15)):
            rings = Reference(orders).rings(many)
            self.assertEqual(len(rings[-1]), 1)
            self.assertEqual(words.ends(orders, rings[-1][0]), "012")

    def test_parts_of_shortest_words_are_shortest(self):
        for orders in ALL:
            told = words.normal(orders, some_words(6, 1, 30, 30)[0])
            for start in range(0, len(told), 3):
                self.assertTrue(words.is_shortest(orders, told[start:start + 9]))


class LeftOut(unittest.TestCase):
    def test_against_all_places(self):
        for orders in ALL:
            slow = Reference(orders)
            for word in all_words(4) + some_words(7, 15, 5, 10):
                if not slow.is_shortest(word):
                    continue
                for letter in slow.ends(word):
                    beyond = slow.normal(word + letter)
                    places = [at for at in range(len(word))
                              if slow.normal(word[:at] + word[at + 1:]) == beyond]
                    self.assertEqual([words.left_out(orders, word, letter)], places)

    def test_long_words(self):
        for orders in ALL:
            word = words.normal(orders, some_words(8, 1, 60, 60)[0])
            for letter in words.ends(orders, word):
                at = words.left_out(orders, word, letter)
                rest = word[:at] + word[at + 1:]
                self.assertTrue(words.is_shortest(orders, rest))
                self.assertTrue(words.same_tile(orders, rest, words.times(orders, word, letter)))

    def test_no_answer(self):
        for word, letter in (("00", "0"), ("1010", "0"), ("", "0"), ("01", "0"), ("01", "2")):
            with self.assertRaises(NoAnswer):
                words.left_out((3, 3, 3), word, letter)
        with self.assertRaises(NoAnswer):
            words.left_out((0, 0, 0), "010", "1")

    def test_no_letter_comes_ahead(self):
        for word in ("00", "01", ""):
            for letter in ("", "3", "01", "00"):
                with self.assertRaises(NotWord):
                    words.left_out((3, 3, 3), word, letter)
        with self.assertRaises(NotWord):
            words.left_out((3, 3, 3), "0" * 61, "0")


class Products(unittest.TestCase):
    def test_against_search(self):
        for orders in ALL:
            slow = Reference(orders)
            for one in some_words(9, 4, 0, 7):
                for other in some_words(10, 4, 0, 7):
                    self.assertEqual(words.times(orders, one, other), slow.normal(one + other))

    def test_brackets_and_inverses(self):
        for orders in ALL:
            one, two, three = some_words(11, 3, 10, 18)
            left = words.times(orders, words.times(orders, one, two), three)
            right = words.times(orders, one, words.times(orders, two, three))
            self.assertEqual(left, right)
            self.assertEqual(words.times(orders, one, ""), words.normal(orders, one))
            self.assertEqual(words.times(orders, "", one), words.normal(orders, one))
            back = words.inverse(orders, one)
            self.assertEqual(words.times(orders, one, back), "")
            self.assertEqual(words.times(orders, back, one), "")
            self.assertEqual(words.inverse(orders, back), words.normal(orders, one))
            self.assertEqual(words.inverse(orders, words.times(orders, one, two)),
                             words.times(orders, words.inverse(orders, two), back))

    def test_powers(self):
        for orders in ALL:
            tiles = Tiles(orders)
            for word in ["", "0", "01", "012"] + some_words(12, 1, 5, 9):
                back = words.inverse(orders, word)
                up = down = ""
                for exponent in range(31):
                    self.assertEqual(words.power(orders, word, exponent), up)
                    self.assertEqual(words.power(orders, word, -exponent), down)
                    up = tiles.normal(up + word)
                    down = tiles.normal(down + back)

    def test_power_of_a_long_word(self):
        word = some_words(13, 1, 60, 60)[0]
        for orders in ((3, 4, 2), (3, 6, 2)):
            square = words.times(orders, word, word)
            self.assertEqual(words.power(orders, word, 2), square)
            self.assertEqual(words.power(orders, word, -1), words.inverse(orders, word))
        self.assertEqual(words.power((0, 0, 0), "012" * 20, 30), "012" * 600)
        self.assertEqual(words.power((0, 0, 0), "012" * 20, -30), "210" * 600)
        self.assertEqual(words.power((12, 11, 12), "012" * 20, 30), "012" * 600)

    def test_bad_exponents(self):
        for exponent in (31, -31, 10 ** 20, -10 ** 20):
            with self.assertRaises(BadNumber):
                words.power((3, 3, 3), "01", exponent)
            with self.assertRaises(NotWord):
                words.power((3, 3, 3), "03", exponent)
            with self.assertRaises(NotOrders):
                words.power((3, 3, 1), "03", exponent)


class RememberedTiles(unittest.TestCase):
    def test_methods_stand_in_the_class(self):
        for name in ("normal", "beyond", "ends"):
            self.assertIn(name, vars(Tiles))

    def test_four_hundred_letters(self):
        for orders in ((3, 3, 3), (3, 7, 2), (0, 3, 2), (2, 3, 5), (11, 7, 9), (0, 0, 0)):
            tiles = Tiles(orders)
            source = random.Random(14)
            word = "".join(source.choice(LETTERS) for _ in range(400))
            told = tiles.normal(word)
            step = ""
            for letter in word[:150]:
                step = tiles.beyond(step, letter)
            self.assertEqual(tiles.normal(word[:150]), step)
            self.assertEqual(tiles.normal(told), told)
            self.assertEqual(tiles.normal(word[:200] + word[:200][::-1]), "")
            ends = tiles.ends(word)
            for letter in LETTERS:
                there = tiles.beyond(word, letter)
                self.assertEqual(len(there) < len(told), letter in ends)
                self.assertEqual(tiles.ends(word), ends)

    def test_longest_normal_words(self):
        tiles = Tiles((0, 0, 0))
        word = "012" * 133 + "0"
        self.assertEqual(tiles.normal(word), word)
        self.assertEqual(tiles.beyond(word, "1"), word + "1")
        self.assertEqual(tiles.beyond(word, "0"), word[:-1])
        self.assertEqual(tiles.ends(word), "0")
        for orders in ((12, 11, 12), (11, 9, 7), (10, 12, 5)):
            # Nothing can be turned in this word: it is the only shortest one of its tile.
            self.assertEqual(Tiles(orders).normal(word), word)
            self.assertEqual(Tiles(orders).beyond(word, "0"), word[:-1])
            self.assertEqual(Tiles(orders).ends(word), "0")
        flat = Tiles((3, 3, 3))
        self.assertEqual(flat.normal("012" * 133), "012" * 133)
        self.assertEqual(flat.ends("012" * 133), "2")

    def test_refused(self):
        tiles = Tiles((3, 3, 3))
        for wrong in ("0" * 401, "3", "01x", "012" * 134):
            for call in (tiles.normal, tiles.ends):
                with self.assertRaises(NotWord):
                    call(wrong)
            with self.assertRaises(NotWord):
                tiles.beyond(wrong, "0")
        for wrong in ("", "3", "01", "a"):
            with self.assertRaises(NotWord):
                tiles.beyond("01", wrong)
        for wrong in ((3, 3), (1, 3, 3), (3, 3, 13)):
            with self.assertRaises(NotOrders):
                Tiles(wrong)
        self.assertEqual(tiles.normal("0" * 400), "")

    def test_same_answers_whatever_was_asked(self):
        for orders in ALL:
            asked = some_words(15, 25, 0, 30) + some_words(16, 3, 100, 140)
            one, other = Tiles(orders), Tiles(orders)
            first = {word: (one.normal(word), one.ends(word), one.beyond(word, "1"))
                     for word in asked}
            for word in asked[::-1]:
                told = other.ends(word), other.beyond(word, "1"), other.normal(word)
                self.assertEqual((told[2], told[0], told[1]), first[word])
                self.assertEqual(one.normal(word), first[word][0])
                if len(word) <= 60:
                    self.assertEqual(words.normal(orders, word), first[word][0])


class Examples(unittest.TestCase):
    def test_examples(self):
        self.assertTrue(words.same_tile((3, 3, 2), "02", "20"))
        self.assertEqual(words.normal((3, 3, 2), "20"), "02")
        for word in ("010", "101"):
            self.assertEqual(words.normal((3, 3, 2), word), "010")
            self.assertEqual(words.ends((3, 3, 2), word), "01")
        self.assertIs(words.is_shortest((3, 3, 2), "101"), True)
        self.assertEqual(words.normal((3, 3, 2), ""), "")
        self.assertEqual(words.length((3, 3, 2), ""), 0)
        self.assertEqual(words.ends((3, 3, 2), ""), "")

    def test_round_floors_are_finite(self):
        tiles = {(2, 2, 2): 8, (3, 2, 2): 12, (3, 3, 2): 24, (3, 4, 2): 48, (2, 3, 5): 120}
        for orders, many in tiles.items():
            self.assertIn(orders, ROUND)
            floor = Tiles(orders)
            seen, queue = {""}, [""]
            for tile in queue:
                for letter in LETTERS:
                    there = floor.beyond(tile, letter)
                    if there not in seen:
                        seen.add(there)
                        queue.append(there)
            self.assertEqual(len(seen), many)


if __name__ == "__main__":
    unittest.main()
