"""Promise [225]: pictures of flat floors."""

import unittest

from foldfloor import picture as pictures
from foldfloor.errors import Malformed, NoAnswer, NotFlat, NotOrders, NotWord, TooLarge
from foldfloor.flat import is_place, place, tile_at
from foldfloor.rings import ball
from foldfloor.words import normal
from tests.reference import LETTERS, rank
from tests.test_flat import ARRANGED, NOT_FLAT, height_told, letters_of, slow_marks, slow_place
from tests.test_polygons import WRONG_ORDERS
from tests.test_words import some_words

ROOT = (3, 3, 3)


def axes(orders):
    """The letters of the column and of the line."""
    if orders == (3, 3, 3):
        return 1, 2
    middle, _, last = letters_of(orders)
    return int(middle), int(last)


def place_at(orders, column, line):
    """The three numbers of which two are told, by the marks."""
    across, up = axes(orders)
    marks = slow_marks(orders)
    rest = 3 - across - up
    found = [0, 0, 0]
    found[across], found[up] = column, line
    found[rest] = (height_told(orders) - marks[across] * column - marks[up] * line) // marks[rest]
    return tuple(found)


def slow_picture(orders, words):
    """The picture, and its corner."""
    across, up = axes(orders)
    told = {(slow_place(orders, word)[across], slow_place(orders, word)[up]) for word in words}
    columns = [column for column, _ in told]
    lines = [line for _, line in told]
    rows = []
    for line in range(max(lines), min(lines) - 1, -1):
        row = ""
        for column in range(min(columns), max(columns) + 1):
            free = "." if is_place(orders, place_at(orders, column, line)) else "-"
            row += "#" if (column, line) in told else free
        rows.append(row)
    return "\n".join(rows), (min(columns), max(lines))


class Pictures(unittest.TestCase):
    def check(self, orders, words):
        given = list(words)
        told, corner = slow_picture(orders, words)
        found = pictures.picture(orders, words)
        self.assertEqual(found, told)
        self.assertEqual(words, given)
        tiles = sorted({normal(orders, word) for word in words}, key=rank)
        self.assertEqual(pictures.tiles_in(orders, found, corner), tiles)
        return found

    def test_one_tile(self):
        for orders in ARRANGED:
            for word in some_words(131, 5, 0, 60) + ["", "0"]:
                self.assertEqual(self.check(orders, [word]), "#")

    def test_some_tiles(self):
        for orders in ARRANGED:
            signs = set()
            for many in (2, 3, 8, 30, 60):
                signs |= set(self.check(orders, some_words(132, many, 0, 9)))
            self.assertEqual(signs, set("#.-\n"))
            self.check(orders, ball(orders, 4))

    def test_tiles_far_from_each_other(self):
        for orders in ARRANGED:
            words = ("012" * 20, "1021" * 15, "0102" * 15)
            sizes = [len(self.check(orders, [word, word[::-1], ""])) for word in words]
            self.assertGreater(max(sizes), 300)

    def test_tiles_told_twice(self):
        for orders in ARRANGED:
            once = self.check(orders, ["", "0", "012"])
            self.assertEqual(self.check(orders, ["0", "012", "", "0", "11012", "00"]), once)

    def test_small_ones(self):
        self.assertEqual(pictures.picture(ROOT, ["", "0"]), "-#\n#-")
        self.assertEqual(pictures.picture(ROOT, ["0", ""]), "-#\n#-")
        self.assertEqual(pictures.picture(ROOT, ["", "1", "2"]), "#--.\n--#-\n----\n.--#")
        self.assertEqual(pictures.picture(ROOT, ["", "0", "01", "010", "10", "1"]),
                         "-#--.\n#--#-\n-----\n-#--#\n.--#-")
        self.assertEqual(pictures.picture((4, 4, 2), ["", "0", "1", "2"]), "#--.\n----\n--##\n----\n.--#")
        # The letters 0 and 2 are exchanged, and so are the sixth and the third one.
        for orders in ((3, 6, 2), (6, 3, 2)):
            self.assertEqual(pictures.picture(orders, ["", "0", "1", "2"]),
                             "#-.---\n--##--\n------\n.----#")


class Errors(unittest.TestCase):
    def test_errors_in_their_order(self):
        many = [""] * 61
        lists = ([], ["3"], ["", "0" * 61], many, many + ["3"], ["0"])
        for wrong, error in [(orders, NotOrders) for orders in WRONG_ORDERS] + [
                (orders, NotFlat) for orders in NOT_FLAT]:
            for words in lists:
                self.assertRaises(error, pictures.picture, wrong, words)
            for text in ("", "#", "x", "\n"):
                self.assertRaises(error, pictures.tiles_in, wrong, text, (1, 1))
        for orders in ARRANGED:
            for words in (["3"], ["", "0" * 61], many + ["3"], ["a"] + many):
                self.assertRaises(NotWord, pictures.picture, orders, words)
            self.assertRaises(NoAnswer, pictures.picture, orders, [])
            self.assertRaises(TooLarge, pictures.picture, orders, many)
            self.assertEqual(pictures.picture(orders, many[1:]), "#")


class Reading(unittest.TestCase):
    def check(self, orders, text, corner, at):
        with self.assertRaises(Malformed) as caught:
            pictures.tiles_in(orders, text, corner)
        self.assertEqual(caught.exception.at, at, (orders, text, corner))

    def test_texts(self):
        # On the lines 2 and 1, from the column 1 on, there are the tiles 0 and the first one.
        for text, at in (("", 0), ("\n", 0), ("#", 0), (".", 0), ("x", 0), ("\n-#\n#-", 0), ("--", 1), ("-x", 1),
                         ("-\n#-", 3), ("-# ", 2), ("-#\n", 3), ("-#\n\n#-", 3), ("-#\r\n#-", 2), ("-#\n#", 4),
                         ("-#\n#\n", 4), ("-#\n--", 3), ("-#\n-", 3), ("-#\n##", 4), ("-#\n#.", 4),
                         ("-#\n#x", 4), ("-#\n#-#", 5), ("-#\n#--", 5), ("-#\n#- ", 5), ("-#\n#-\n", 6),
                         ("-#\n#-\n\n", 6), ("-#-\n#-", 6), ("--\nx", 1), ("-#\n#-\n-", 7)):
            self.check(ROOT, text, (1, 2), at)

    def test_all_right(self):
        for text, told in (("-", []), ("-#", ["0"]), ("-.", []), ("-\n#", [""]), ("-\n.", []), ("-#\n#-", ["", "0"]),
                           ("-.\n#-", [""]), ("-#\n.-", ["0"]), ("-.\n.-", []), ("-#-\n#--", ["", "0"])):
            self.assertEqual(pictures.tiles_in(ROOT, text, (1, 2)), told)

    def test_each_wrong_sign(self):
        for orders in ARRANGED:
            words = some_words(133, 5, 0, 6)
            text, corner = slow_picture(orders, words)
            for at, sign in enumerate(text):
                for wrong in "#.-\n x%":
                    if wrong != sign and not (wrong in "#." and sign in "#.") and at > 0:
                        if "\n" not in (wrong, sign) or at > text.index("\n"):
                            self.check(orders, text[:at] + wrong + text[at + 1:], corner, at)
                cut = text[:at]
                if "\n" in cut and at % (text.index("\n") + 1) != text.index("\n"):
                    self.check(orders, cut, corner, len(cut))

    def test_order_of_the_tiles(self):
        for orders in ARRANGED:
            text, corner = slow_picture(orders, ball(orders, 5))
            self.assertEqual(pictures.tiles_in(orders, text, corner), ball(orders, 5))
            pictures.tiles_in(orders, text, corner).clear()
            free = text.replace("#", ".")
            self.assertEqual(pictures.tiles_in(orders, free, corner), [])

    def test_tiles_of_more_than_sixty_letters(self):
        word = "012" * 20
        column, line = place(ROOT, word)[1:]
        self.assertEqual(pictures.tiles_in(ROOT, "#", (column, line)), [word])
        far = slow_place(ROOT, word + "0")
        self.assertRaises(TooLarge, pictures.tiles_in, ROOT, "#", (far[1], far[2]))
        self.assertEqual(pictures.tiles_in(ROOT, ".", (far[1], far[2])), [])
        large = 3 * 10 ** 30
        self.assertRaises(TooLarge, pictures.tiles_in, ROOT, "-#\n#-", (1 + large, 2 - large))
        self.assertEqual(pictures.tiles_in(ROOT, "-.\n.-", (1 + large, 2 - large)), [])
        # What cannot stand at its place comes first.
        self.check(ROOT, "-#\n#x", (1 + large, 2 - large), 4)
        self.check(ROOT, "-#\n#", (1 + large, 2 - large), 4)

    def test_letters(self):
        for orders in ARRANGED:
            for letter in LETTERS:
                across, up = axes(orders)
                there = place(orders, letter)
                self.assertEqual(pictures.tiles_in(orders, "#", (there[across], there[up])), [letter])
                self.assertEqual(tile_at(orders, there), letter)


class Example(unittest.TestCase):
    def test_example(self):
        self.assertEqual(pictures.picture((3, 3, 3), ["", "0"]), "-#\n#-")
        self.assertEqual(pictures.tiles_in((3, 3, 3), "-#\n#-", (1, 2)), ["", "0"])


if __name__ == "__main__":
    unittest.main()
