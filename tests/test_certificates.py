"""Promises [260] to [267]: the checker of logs, full lists, tables and overlap certificates."""

import ast
import pathlib
import random
import unittest

from foldfloor import certificates, steps
from foldfloor.answers import answer_of, full_list, table_of
from foldfloor.copies import part_of
from foldfloor.errors import NotOrders, NotWord
from foldfloor.gluing import Gluing
from foldfloor.pairing import mirrors
from foldfloor.search import all_pairings
from foldfloor.words import Tiles, normal
from tests.gluings import fitting_gluings, large_gluings, row_word, slow_overlap, some_gluings
from tests.reference import ALL, LETTERS, all_words, order_of, turned
from tests.test_polygons import WRONG_ORDERS
from tests.test_words import some_words

FREE = ((0, 0, 0), ("",))

ONE = ((3, 4, 2), ("",))

TWO = ((3, 4, 2), ("", "0"))

GLUED = ((("", "1"), ("0", "1")), (("", "2"), ("0", "2")))

TABLE = (((0, (1,), ()), (0, (2,), ()), (0, (3,), ())),)

FITTING = [gluing for gluing in fitting_gluings() if 1 < len(gluing[0][1]) < 10]

UNFIT = [gluing for seed in range(2) for gluing in some_gluings(seed) if slow_overlap(*gluing) is not None]


def some_step(word, source):
    """A step, which may be allowed or not."""
    at = source.randint(-1, len(word) + 1)
    letters = source.sample(["0", "1", "2", source.choice(["", "3", "01"])], 2)
    return source.choice([("put", at, letters[0]), ("cut", at), ("turn", at, letters[0], letters[1])])


def some_log(orders, word, many, source):
    """A log of steps that are allowed, and the word to which it leads."""
    log = []
    while len(log) < many:
        step = some_step(word, source)
        if certificates.is_log(orders, word, slow_step(orders, word, step) or "", [step]):
            if slow_step(orders, word, step) is not None:
                log.append(step)
                word = slow_step(orders, word, step)
    return log, word


def slow_step(orders, word, step):
    """The word after a step, or None, by [2]."""
    kind, at = step[0], step[1]
    if kind == "put":
        allowed = step[2] in list(LETTERS) and 0 <= at <= len(word)
        after = word[:at] + 2 * step[2] + word[at:]
    elif kind == "cut":
        allowed = 0 <= at and at + 1 < len(word) and word[at] == word[at + 1]
        after = word[:max(at, 0)] + word[at + 2:]
    else:
        one, other = step[2:]
        if one not in list(LETTERS) or other not in list(LETTERS) or one == other:
            return None
        m = order_of(orders, one, other)
        old = "".join([one, other][k % 2] for k in range(m))
        new = "".join([other, one][k % 2] for k in range(m))
        allowed = m != 0 and at >= 0 and word[at:at + m] == old
        after = word[:max(at, 0)] + new + word[at + m:]
    return after if allowed and len(after) <= 200 else None


def changed(things, at, thing):
    """A tuple or list with another thing at a place."""
    return things[:at] + type(things)([thing]) + things[at + 1:]


def with_entry(table, t, i, entry):
    return changed(table, t, changed(table[t], i, entry))


class Module(unittest.TestCase):
    def test_imports(self):
        tree = ast.parse(pathlib.Path(certificates.__file__).read_text())
        found = [node.module for node in ast.walk(tree) if isinstance(node, (ast.ImportFrom, ast.Import))]
        self.assertEqual(found, ["foldfloor.errors"])


class Logs(unittest.TestCase):
    def test_right_logs(self):
        source = random.Random(151)
        for orders in ALL:
            for word in ["", "0120"] + some_words(152, 3, 3, 60):
                log, end = some_log(orders, word, 8, source)
                self.assertIs(certificates.is_log(orders, word, end, log), True)
                self.assertIs(certificates.is_log(orders, word, end, tuple(log)), True)
                self.assertIs(steps.is_log(orders, word, end, log), True)
                self.assertIs(certificates.is_log(orders, word, word, []), True)
                # Another end, or a step less.
                self.assertIs(certificates.is_log(orders, word, end + "00", log), False)
                self.assertIs(certificates.is_log(orders, word, end, log[:-1]), False)
                derived = steps.derive(orders, word)
                self.assertIs(certificates.is_log(orders, word, normal(orders, word), derived), True)

    def test_single_steps(self):
        source = random.Random(153)
        allowed = {"put": set(), "cut": set(), "turn": set()}
        for orders in ALL:
            for word in all_words(2) + some_words(154, 12, 3, 14) + ["01" * 12, "02" * 12]:
                for _ in range(12):
                    step = some_step(word, source)
                    told = slow_step(orders, word, step)
                    for end in {told or word, word, word + "11", word[2:]}:
                        self.assertIs(certificates.is_log(orders, word, end, [step]), told == end)
                    allowed[step[0]].add(told is not None)
        self.assertEqual(set(map(frozenset, allowed.values())), {frozenset([True, False])})

    def test_any_integers_and_strings(self):
        for step in (("put", 0, "00"), ("put", 0, ""), ("put", 0, "3"), ("put", -1, "0"), ("put", 5, "0"),
                     ("put", 10 ** 30, "0"), ("cut", -1), ("cut", 3), ("cut", 4), ("cut", 0), ("cut", -10 ** 30),
                     ("turn", 0, "0", "0"), ("turn", 0, "", "01"), ("turn", 0, "x", "0"), ("turn", 0, "01", "10"),
                     ("turn", -4, "0", "1"), ("turn", 2, "0", "1"), ("turn", 10 ** 30, "0", "1"),
                     ("turn", 0, "1", "0"), ("turn", 0, "1", "2")):
            for end in ("0101", "", "010100", "1001", "01", "1011", "0010"):
                self.assertIs(certificates.is_log((3, 0, 2), "0101", end, [step]), False, step)
        self.assertIs(certificates.is_log((3, 0, 2), "0101", "1011", [("turn", 0, "0", "1")]), True)

    def test_steps_of_no_form(self):
        for step in ((), ("cut",), ("cut", "0"), ["cut", 0], ("jump", 0), ("put", 0), ("cut", 0, "1"), ("turn", 0, "0"),
                     ("turn", 0, "0", "1", "2"), (0, 0), 5, "cut", ("cut", (0,)), ("put", 0, 0), ("cut", False)):
            for end in ("", "00"):
                self.assertIs(certificates.is_log((3, 3, 3), "00", end, [step]), False, step)
        for log in (5, "cut", ("cut", 0), 0):
            self.assertIs(certificates.is_log((3, 3, 3), "00", "", log), False)

    def test_two_hundred_letters(self):
        word = "012" * 66
        self.assertIs(certificates.is_log((3, 3, 3), word, word + "00", [("put", 198, "0")]), True)
        self.assertIs(certificates.is_log((3, 3, 3), word + "00", word, [("cut", 198)]), True)
        for log in ([("put", 200, "1"), ("cut", 200)], [("put", 0, "1"), ("cut", 0)]):
            self.assertIs(certificates.is_log((3, 3, 3), word + "00", word + "00", log), False)
        self.assertIs(certificates.is_log((3, 3, 3), word + "0", word + "0", [("put", 0, "1"), ("cut", 0)]), False)
        self.assertIs(certificates.is_log((3, 3, 3), word, word, [("put", 0, "1"), ("cut", 0)]), True)


class FullLists(unittest.TestCase):
    def test_full_lists(self):
        for orders in ALL:
            for word in all_words(4) + some_words(155, 4, 5, 10):
                told = sorted(turned(orders, normal(orders, word)))
                self.assertIs(certificates.is_full(orders, told), True)
                self.assertIs(certificates.is_full(orders, told[::-1]), True)
                self.assertIs(certificates.is_full(orders, told + told[:1]), True)
                if len(told) > 1:
                    for at in range(len(told)):
                        self.assertIs(certificates.is_full(orders, told[:at] + told[at + 1:]), False)

    def test_small_ones(self):
        orders = (3, 4, 2)
        for words, told in (([], False), ([""], True), (["", ""], True), (["", "0"], True), (["0"], True),
                            (["00"], False), (["010"], False), (["010", "101"], True), (["101", "010"], True),
                            (["010", "101", "02"], False), (["010", "101", "02", "20"], True),
                            (["010", "101", "11"], False), (["010", "101", ""], True), (["02", "20", "02"], True),
                            (["0102", "1012", "0120"], True), (["0102", "0120"], False), (["02"], False),
                            (["1212"], False),
                            (["1212", "2121"], True), (["0110"], False)):
            self.assertIs(certificates.is_full(orders, words), told, words)

    def test_words_that_are_not_shortest(self):
        # Turns lead to a word with two equal neighbours.
        for orders, word in (((3, 4, 2), "0101"), ((3, 3, 3), "1212"), ((2, 3, 6), "010")):
            every = sorted(turned(orders, word))
            self.assertIs(certificates.is_full(orders, every), False)
            apart = [one for one in every if all(x != y for x, y in zip(one, one[1:]))]
            self.assertIs(certificates.is_full(orders, apart), False)

    def test_long_words(self):
        self.assertIs(certificates.is_full((0, 0, 0), ["01" * 100]), True)
        row = "02" * 99
        words = [row[:at] + "1" + row[at:] for at in range(len(row) + 1)]
        self.assertIs(certificates.is_full((2, 2, 0), words), True)
        self.assertIs(certificates.is_full((2, 2, 0), words[1:]), False)
        self.assertIs(certificates.is_full((3, 2, 0), full_list((3, 2, 0), "012" * 6)), True)


class Tables(unittest.TestCase):
    def test_example(self):
        self.assertIs(certificates.is_table(FREE, mirrors(FREE), TABLE), True)
        self.assertEqual(certificates.shown(FREE, mirrors(FREE), ("fits", TABLE)), "fits")
        self.assertEqual(certificates.laid(FREE, mirrors(FREE), TABLE, "0120"), ((1, 2, 3, 1), 0))

    def test_tables_of_answers(self):
        for polygon, pairs in fitting_gluings() + large_gluings()[::5]:
            _, table = answer_of(polygon, pairs)
            self.assertIs(certificates.is_table(polygon, pairs, table), True)
            tuples = tuple(tuple((u, row, tuple(log)) for u, row, log in entries) for entries in table)
            self.assertIs(certificates.is_table(polygon, pairs, tuples), True)

    def refused(self, polygon, pairs, table):
        self.assertIs(certificates.is_table(polygon, pairs, table), False)
        self.assertIsNone(certificates.laid(polygon, pairs, table, "01"))
        self.assertEqual(certificates.shown(polygon, pairs, ("fits", table)), "none")

    def test_each_part_of_each_entry(self):
        for polygon, pairs in FITTING[::4]:
            _, table = answer_of(polygon, pairs)
            for t, entries in enumerate(table):
                for i, (u, row, log) in enumerate(entries):
                    for index in (-1, u - len(table), len(table), (u + 1) % len(table), 10 ** 20):
                        self.refused(polygon, pairs, with_entry(table, t, i, (index, row, log)))
                    for other in (row + (1,), row + (0,), (0,), (len(pairs) + 1,), (-len(pairs) - 1,),
                                  row + (1, 1, 1, 1),
                                  (1, -1, 1, -1), row + (10 ** 20,)):
                        self.refused(polygon, pairs, with_entry(table, t, i, (u, other, log)))
                    for steps_told in (log[:-1] if log else [("cut", 0)], log + [("put", 0, "0")],
                                       log + [("cut", -1)], [("turn", 0, "0", "0")] + log, log + [("put", 300, "x")]):
                        self.refused(polygon, pairs, with_entry(table, t, i, (u, row, steps_told)))

    def test_missing_parts(self):
        for polygon, pairs in FITTING[::3]:
            _, table = answer_of(polygon, pairs)
            for wrong in (table[1:], table[:-1], table + table[:1], (), table + ((),), changed(table, 0, ()),
                          changed(table, 0, table[0][:2]), changed(table, -1 % len(table), table[0] + table[0][:1]),
                          with_entry(table, 0, 0, ()), with_entry(table, 0, 0, table[0][0][:2]),
                          with_entry(table, 0, 0, table[0][0] + (1,))):
                self.refused(polygon, pairs, wrong)

    def test_row_of_three(self):
        # Mirrors that cut each other do not change a motion: rows of up to three integers are right.
        log = [("put", 1, "0")]
        first = (0, (1, 1, 1), log)
        self.assertIs(certificates.is_table(FREE, mirrors(FREE), with_entry(TABLE, 0, 0, first)), True)
        first = (0, (1, -1, -1), log)
        self.assertIs(certificates.is_table(FREE, mirrors(FREE), with_entry(TABLE, 0, 0, first)), True)
        first = (0, (1, 1, 1, 1, 1), log + log)
        self.refused(FREE, mirrors(FREE), with_entry(TABLE, 0, 0, first))
        self.refused(FREE, mirrors(FREE), with_entry(TABLE, 0, 0, (0, (1, 1, 1), [])))
        self.refused(FREE, mirrors(FREE), with_entry(TABLE, 0, 0, (0, (1, 1), [])))
        # Rows of two and of four integers, both with right logs.
        polygon = ((0, 0, 0), ("", "0"))
        _, table = answer_of(polygon, mirrors(polygon))
        for row, told in (((1, 1), True), ((1, 1, 1, 1), False), ((1, 1, 2, -2), False), ((1, -1), True)):
            word = row_word(mirrors(polygon), row)
            entry = (1, row, [("put", k, letter) for k, letter in enumerate(word[:1])])
            if len(row) == 4:
                entry = (1, row, entry[2] + [("put", 2, word[2])])
            self.assertTrue(steps.is_log(polygon[0], "0", word + "0", entry[2]))
            self.assertIs(certificates.is_table(polygon, mirrors(polygon), with_entry(table, 0, 0, entry)), told)
        # An integer more makes another motion, too.
        self.refused(FREE, mirrors(FREE), with_entry(TABLE, 0, 0, (0, (1, 2, 2, 1), [])))

    def test_two_hundred_letters(self):
        tile = ("12" * 30)[:39]
        polygon = ((0, 0, 0), (tile, tile + "0"))
        pairs = (((tile, "1"), (tile, "1")), ((tile, "2"), (tile + "0", "2")), ((tile + "0", "1"), (tile + "0", "1")))
        self.assertEqual([tile[-1]], ["1"])
        _, table = answer_of(polygon, pairs)
        for t, row, many, told in ((0, (1, 1), 198, True), (0, (2, -2), 200, True), (0, (-2, 2), 200, True),
                                   (0, (3, 3), 202, False), (1, (1, 1), 197, True), (1, (2, -2), 199, True),
                                   (1, (3, 3), 201, False)):
            u, _, log = table[t][0]
            word = row_word(pairs, row)
            self.assertEqual(len(word) + len(polygon[1][u]), many)
            longer = log + [("put", k, letter) for k, letter in enumerate(word[:len(word) // 2])]
            found = certificates.is_table(polygon, pairs, with_entry(table, t, 0, (u, row, longer)))
            self.assertIs(found, told, row)

    def test_entries_of_others(self):
        for polygon, pairs in ((TWO, GLUED), (FREE, mirrors(FREE)), (ONE, mirrors(ONE))):
            _, table = answer_of(polygon, pairs)
            entries = [entry for row in table for entry in row]
            for t in range(len(table)):
                for i in range(3):
                    for entry in entries:
                        if entry != table[t][i]:
                            self.refused(polygon, pairs, with_entry(table, t, i, entry))


class Conditions(unittest.TestCase):
    """Each of the five conditions, broken alone."""

    def check(self, polygon, pairs, table, told):
        orders, tiles = polygon
        ways = [[entry[0] for entry in row] for row in table]

        def along(at, word):
            for letter in word:
                at = ways[at][int(letter)]
            return at

        start = along(0, tiles[0][::-1])
        held = [all(steps.is_log(orders, tile + letter, row_word(pairs, row) + tiles[u], log)
                    for tile, entries in zip(tiles, table) for letter, (u, row, log) in zip(LETTERS, entries)),
                all(ways[ways[t][i]][i] == t for t in range(len(tiles)) for i in range(3)),
                all(along(t, (i + j) * order_of(orders, i, j)) == t for t in range(len(tiles))
                    for i in LETTERS for j in LETTERS if i != j),
                all(along(start, tile) == t for t, tile in enumerate(tiles)),
                all(along(start, row_word(pairs, (k + 1,)) + tiles[0]) == 0 for k in range(len(pairs)))]
        self.assertEqual(held, [k != told for k in range(5)])
        self.assertIs(certificates.is_table(polygon, pairs, table), told is None)

    def test_logs(self):
        for polygon, pairs in FITTING:
            _, table = answer_of(polygon, pairs)
            self.check(polygon, pairs, table, None)
            u, row, log = table[0][1]
            self.check(polygon, pairs, with_entry(table, 0, 1, (u, row, log + [("put", 0, "1")])), 0)

    def test_back(self):
        # Over the side 1 the mirror leads from the first tile to itself, and the pair from the second one.
        polygon = ((0, 0, 0), ("", "0"))
        pairs = ((("", "1"), ("", "1")), (("", "1"), ("0", "1")), (("", "2"), ("", "2")), (("0", "2"), ("0", "2")))
        table = (((1, (), []), (0, (1,), []), (0, (3,), [])),
                 ((0, (), [("cut", 0)]), (0, (2,), []), (1, (4,), [("put", 2, "0")])))
        self.check(polygon, pairs, table, 1)
        self.check(polygon, pairs[1:], (((1, (), []), (1, (-1,), [("put", 1, "0")]), (0, (2,), [])),
                                        ((0, (), [("cut", 0)]), (0, (1,), []), (1, (3,), [("put", 2, "0")]))), None)

    def test_corners(self):
        for orders in ((3, 4, 2), (5, 4, 2), (3, 3, 3), (11, 0, 3)):
            for pairs in all_pairings((orders, ("", "0"))):
                polygon = (orders, ("", "0"))
                told = None if slow_overlap(polygon, pairs) is None else 2
                self.check(polygon, pairs, table_of(Gluing(polygon, pairs)), told)

    def test_tiles(self):
        # A mirror in each side of two tiles, also in the one between them.
        polygon = ((0, 0, 0), ("", "0"))
        pairs = tuple(((tile, letter), (tile, letter)) for tile in ("", "0") for letter in LETTERS)
        table = (((0, (1,), []), (0, (2,), []), (0, (3,), [])),
                 ((1, (4,), [("put", 2, "0")]), (1, (5,), [("put", 2, "0")]), (1, (6,), [("put", 2, "0")])))
        self.check(polygon, pairs, table, 3)

    def test_pairs(self):
        for polygon, pairs in FITTING:
            _, table = answer_of(polygon, pairs)
            tiles = polygon[1]
            for side in [(tiles[0], letter) for letter in LETTERS]:
                if Tiles(polygon[0]).beyond(*side) in tiles:
                    self.check(polygon, pairs + ((side, side),), table, 4)

    def test_words_of_one_tile(self):
        # Polygons that are none: two words of one tile, and tiles that are not joined.
        orders = (3, 4, 2)
        pairs = tuple((("", letter), ("", letter)) for letter in LETTERS)
        row = ((0, (1,), []), (0, (2,), []), (0, (3,), []))
        self.assertIs(certificates.is_table((orders, ("",)), pairs, (row,)), True)
        self.assertIs(certificates.is_table((orders, ("", "")), pairs, (row, row)), False)
        self.assertIs(certificates.is_table((orders, ("", "00")), pairs, (row, row)), False)


class OtherForms(unittest.TestCase):
    def test_pairs(self):
        for polygon, pairs in ((TWO, GLUED), FITTING[0]):
            _, table = answer_of(polygon, pairs)
            tile = polygon[1][0]
            one, other = pairs[0]
            for wrong in ((), pairs[:-1], ((one, ("2222", one[1])),) + pairs[1:], ((one, (tile, "3")),) + pairs[1:],
                          ((("x", one[1]), other),) + pairs[1:], (((one[0], ""), (one[0], "")),) + pairs[1:],
                          (((one[0], "01"), (other[0], "01")),) + pairs[1:], pairs + (((tile, "0"), (tile, "1")),),
                          pairs + ((("0" * 70, "0"), ("0" * 70, "0")),), list(pairs)):
                self.assertIs(certificates.is_table(polygon, wrong, table), False)
                self.assertIsNone(certificates.laid(polygon, wrong, table, ""))
                self.assertEqual(certificates.shown(polygon, wrong, ("fits", table)), "none")
        polygon, pairs = UNFIT[0]
        _, found = answer_of(polygon, pairs)
        self.assertIs(certificates.is_overlap(polygon, pairs, found), True)
        tile = polygon[1][0]
        for more in (((tile, "0"), (tile, "1")), (("3", "0"), ("3", "0")), ((tile, "3"), (tile, "3"))):
            self.assertIs(certificates.is_overlap(polygon, pairs + (more,), found), False)
        self.assertIs(certificates.is_overlap(polygon, list(pairs), found), False)
        self.assertIs(certificates.is_overlap(polygon, (), found), False)

    def test_things_of_other_kinds(self):
        pairs = mirrors(FREE)
        for entry in (5, "0", (), ("0", (1,), ()), ((0,), (1,), ()), (False, (1,), ()), (0, 1, ()), (0, "1", ()),
                      (0, ("1",), ()), (0, ((1,),), ()), (0, [1], ()), (0, (True,), ()), (0, (1,), 5), (0, (1,), "cut"),
                      (0, (1,), (5,)), (0, (1,), ((),)), [0, (1,), ()]):
            self.assertIs(certificates.is_table(FREE, pairs, with_entry(TABLE, 0, 0, entry)), False, entry)
        for table in (5, "", None, [], list(TABLE), (5,), ("000",), (list(TABLE[0]),)):
            self.assertIs(certificates.is_table(FREE, pairs, table), False)
        for wrong in (5, "", None, (5,), ("00",), ((("", "0"),),), ((5, 5),), ((("", "0"), 5),), (("", ""),),
                      ((("", "0"), ("", "0", "0")),), (((0, "0"), (0, "0")),), ((("", 0), ("", 0)),),
                      ((["", "0"], ["", "0"]),)):
            self.assertIs(certificates.is_table(FREE, wrong, TABLE), False, wrong)
            self.assertIs(certificates.is_overlap(FREE, wrong, ((), 0, 0, [], [""], [""])), False)
        polygon, pairs = TWO, mirrors(TWO)
        row, u, t, log, first, second = answer_of(polygon, pairs)[1]
        found = (row, u, t, log, first, second)
        for at, others in ((0, (5, "1", list(row), ("1",) + row, ((1,),))), (1, ("0", (u,), None, bool(u))),
                           (2, ("0", (t,), None, bool(t))), (3, (5, "cut", None)),
                           (4, (5, None, "", first[0], [5], first + [5], [first])),
                           (5, (5, None, "", second[0], [5], second + [5], [second]))):
            for other in others:
                self.assertIs(certificates.is_overlap(polygon, pairs, changed(found, at, other)), False, (at, other))
        for wrong in (5, "", None, list(found), (5,) * 6):
            self.assertIs(certificates.is_overlap(polygon, pairs, wrong), False)

    def test_polygons_of_any_length(self):
        for tiles in ((), ("",) * 70, ("", "01"), ("0", ""), tuple(all_words(4)), ("00",), ("0", "0")):
            polygon = ((3, 4, 2), tiles)
            for pairs in ((), mirrors(ONE), GLUED):
                for table in ((), TABLE, TABLE * len(tiles)):
                    self.assertIs(certificates.is_table(polygon, pairs, table), False)
                    self.assertIsNone(certificates.laid(polygon, pairs, table, "0"))
                    self.assertEqual(certificates.shown(polygon, pairs, ("fits", table)), "none")
                for found in ((), ((), 0, 0, [], [""], [""]), ((1,), 0, 1, [], ["0"], ["1"])):
                    self.assertIs(certificates.is_overlap(polygon, pairs, found), False)
                    self.assertEqual(certificates.shown(polygon, pairs, ("overlaps", found)), "none")

    def test_answers_that_are_none(self):
        for polygon, pairs in FITTING[:4] + UNFIT[:4]:
            kind, proof = answer_of(polygon, pairs)
            self.assertEqual(certificates.shown(polygon, pairs, (kind, proof)), kind)
            other = "overlaps" if kind == "fits" else "fits"
            for wrong in ((other, proof), ("none", proof), ("", proof), ("Fits", proof), (kind,), (kind, proof, 1),
                          (), (kind, ()), (kind, (proof,)), (kind, "0"), (kind, 1), (1, proof), (kind, [proof])):
                self.assertEqual(certificates.shown(polygon, pairs, wrong), "none")


class Laid(unittest.TestCase):
    def test_against_parts(self):
        for polygon, pairs in FITTING + [(FREE, mirrors(FREE))]:
            _, table = answer_of(polygon, pairs)
            floor = Tiles(polygon[0])
            for word in some_words(156, 4, 0, 9) + ["", polygon[1][-1]]:
                row, at = certificates.laid(polygon, pairs, table, word)
                told, place = part_of(polygon, pairs, word)
                self.assertEqual(polygon[1][at], place)
                motion = row_word(pairs, row)
                if len(motion) <= 400:
                    self.assertEqual(floor.normal(motion), floor.normal(row_word(pairs, told)))
                    self.assertEqual(floor.normal(motion + place), floor.normal(word))

    def test_rows_of_the_way(self):
        # Nothing is cut: the rows of the entries stand one behind the other.
        self.assertEqual(certificates.laid(FREE, mirrors(FREE), TABLE, "0011"), ((1, 1, 2, 2), 0))
        self.assertEqual(certificates.laid(FREE, mirrors(FREE), TABLE, ""), ((), 0))
        self.assertEqual(certificates.laid(FREE, mirrors(FREE), TABLE, "012" * 20), ((1, 2, 3) * 20, 0))
        polygon = ((0, 0, 0), ("01",))
        _, table = answer_of(polygon, mirrors(polygon))
        self.assertEqual(certificates.laid(polygon, mirrors(polygon), table, "02"), ((2, 1, 1, 3), 0))
        polygon, pairs = TWO, GLUED
        _, table = answer_of(polygon, pairs)
        self.assertEqual(certificates.laid(polygon, pairs, table, "0121"), ((1, -2, 1), 0))


class Overlaps(unittest.TestCase):
    def refused(self, polygon, pairs, found):
        self.assertIs(certificates.is_overlap(polygon, pairs, found), False)
        self.assertEqual(certificates.shown(polygon, pairs, ("overlaps", found)), "none")

    def test_certificates_of_answers(self):
        for polygon, pairs in UNFIT:
            _, found = answer_of(polygon, pairs)
            self.assertIs(certificates.is_overlap(polygon, pairs, found), True)
            row, u, t, log, first, second = found
            for right in ((row, u, t, tuple(log), first, second),
                          (row, u, t, log + [("put", 0, "0"), ("cut", 0)], first, second),
                          (row, u, t, log, first[::-1], second + second),
                          (row, u, t, log, tuple(first), tuple(second))):
                self.assertIs(certificates.is_overlap(polygon, pairs, right), True)

    def test_each_part(self):
        for polygon, pairs in UNFIT[::3]:
            _, found = answer_of(polygon, pairs)
            row, u, t, log, first, second = found
            many = len(polygon[1])
            for at, others in ((0, (row + (1,), row[:-1], row + (0,), (0,) + row, row + (len(pairs) + 1,),
                                    row + (-len(pairs) - 1,), (), row + (10 ** 20,))),
                               (1, (-1, u - many, many, t, 10 ** 20, -10 ** 20)),
                               (2, (-1, t - many, many, u, 10 ** 20)),
                               (3, (log[:-1] if log else [("cut", 0)], log + [("put", 0, "0")], log + [("cut", -1)],
                                    [("put", 300, "0")] + log, log + [("turn", 0, "", "x")])),
                               (4, ([], second, first + second, first + ["00"], first + ["3"], first + ["0" * 201],
                                    first[1:], [""] if first != [""] else ["0"])),
                               (5, ([], first, second + first, second + ["11"], second + ["x"], second + ["1" * 201],
                                    second[:-1], [""] if second != [""] else ["0"]))):
                for other in others:
                    self.refused(polygon, pairs, changed(found, at, other))
            self.refused(polygon, pairs, (row, t, u, log, second, first) if row else ())
            self.refused(polygon, pairs, (row, u, t, log, second, first))
            self.refused(polygon, pairs, found[:-1])
            self.refused(polygon, pairs, found + ([],))
            self.refused(polygon, pairs, ())

    def test_lists_with_other_words(self):
        polygon, pairs = TWO, mirrors(TWO)
        row, u, t, log, first, second = answer_of(polygon, pairs)[1]
        self.assertEqual(sorted(first + second), ["", "0"])
        for one, other, told in ((first + ["1"], second, True), (first, second + ["1"], True),
                                 (first + ["1"], second + ["1"], False), (first + ["010", "101"], second, True),
                                 (first + ["010"], second, False), (["1"], second, False), (first, ["1"], False)):
            self.assertIs(certificates.is_overlap(polygon, pairs, (row, u, t, log, one, other)), told)

    def with_more(self, polygon, pairs, found, more):
        """A right certificate with integers in front that cut each other, and the letters of its longest word."""
        row, u, t, log, first, second = found
        front = row_word(pairs, more)
        longer_log = flat_cuts(front) + log
        return (more + row, u, t, longer_log, first, second), len(front + row_word(pairs, row) + polygon[1][u])

    def test_sixty_integers(self):
        lengths = set()
        for polygon in (TWO, ((3, 3, 3), ("", "0", "1")), ((4, 4, 4), ("", "0", "1"))):
            for pairs in all_pairings(polygon):
                kind, found = answer_of(polygon, pairs)
                if kind == "overlaps":
                    for many in range(31):
                        longer, size = self.with_more(polygon, pairs, found, (1, -1) * many)
                        if size <= 200:
                            told = len(longer[0]) <= 60
                            self.assertIs(certificates.is_overlap(polygon, pairs, longer), told)
                            lengths.add(len(longer[0]))
        self.assertTrue(lengths.issuperset([59, 60, 61, 62]))

    def test_two_hundred_letters(self):
        polygon = ((3, 4, 2), ("1", "10"))
        pairs = mirrors(polygon)
        row, u, t, log, first, second = answer_of(polygon, pairs)[1]
        back = row[::-1]
        start = row_word(pairs, back) + polygon[1][t]
        other = (back, t, u, steps.connect(polygon[0], start, polygon[1][u]), second, first)
        sizes = set()
        for found in ((row, u, t, log, first, second), other):
            self.assertIs(certificates.is_overlap(polygon, pairs, found), True)
            # Mirrors with words of 3 and of 5 letters.
            for threes in range(0, 54, 2):
                for fives in range(0, 56 - threes, 2):
                    longer, size = self.with_more(polygon, pairs, found, (1,) * threes + (3,) * fives)
                    if size > 190:
                        self.assertIs(certificates.is_overlap(polygon, pairs, longer), size <= 200)
                        sizes.add(size)
        self.assertTrue(sizes.issuperset(range(195, 206)))


def flat_cuts(word):
    """A log that cuts a word whose letters cut each other."""
    log = []
    while word:
        at = [k for k in range(len(word) - 1) if word[k] == word[k + 1]][0]
        log.append(("cut", at))
        word = word[:at] + word[at + 2:]
    return log


class Exclusion(unittest.TestCase):
    def test_answers_of_other_pairings(self):
        for polygon in (TWO, ((4, 4, 2), ("", "1")), ((3, 3, 3), ("", "0", "1")), ((0, 3, 4), ("", "2"))):
            every = list(all_pairings(polygon))[:12]
            truth = {pairs: "overlaps" if slow_overlap(polygon, pairs) else "fits" for pairs in every}
            for one in every:
                for other in every:
                    found = certificates.shown(polygon, other, answer_of(polygon, one))
                    self.assertIn(found, ("none", truth[other]))
                    if truth[one] != truth[other]:
                        self.assertEqual(found, "none")
                    if one == other:
                        self.assertEqual(found, truth[one])


class Errors(unittest.TestCase):
    def test_orders_first(self):
        for orders in WRONG_ORDERS:
            for word in ("", "3", "0" * 201):
                self.assertRaises(NotOrders, certificates.is_log, orders, word, "0", [])
                self.assertRaises(NotOrders, certificates.is_log, orders, "0", word, [("cut", 0)])
                self.assertRaises(NotOrders, certificates.is_full, orders, [word])
            self.assertRaises(NotOrders, certificates.is_full, orders, [])
            for tiles in (("",), ("3",), ("0" * 61,), ()):
                self.assertRaises(NotOrders, certificates.is_table, (orders, tiles), (), ())
                self.assertRaises(NotOrders, certificates.is_overlap, (orders, tiles), (), ())
                self.assertRaises(NotOrders, certificates.shown, (orders, tiles), (), ())
                for word in ("", "3", "0" * 61):
                    self.assertRaises(NotOrders, certificates.laid, (orders, tiles), (), (), word)

    def test_orders_of_other_kinds(self):
        for orders in ((3, "3", 3), (3, None, 3), (False, 3, 3), (3, (3,), 3), [3, 3, 3], "333", 3):
            self.assertRaises(NotOrders, certificates.is_full, orders, ["0"])
            self.assertRaises(NotOrders, certificates.shown, (orders, ("",)), (), ())

    def test_words_of_two_hundred_letters(self):
        for word in ("3", "01a", "0" * 201, " "):
            self.assertRaises(NotWord, certificates.is_log, (3, 3, 3), word, "0", [])
            self.assertRaises(NotWord, certificates.is_log, (3, 3, 3), "0", word, [])
            for words in ([word], ["0", word], ["00", word, ""]):
                self.assertRaises(NotWord, certificates.is_full, (3, 3, 3), words)
        self.assertIs(certificates.is_log((3, 3, 3), "0" * 200, "0" * 200, []), True)

    def test_words_of_sixty_letters(self):
        for wrong in ("3", "0a", "012" * 20 + "0", "%"):
            for tiles in ((wrong,), ("", wrong), (wrong, ""), ("0", "0", wrong)):
                polygon = ((3, 3, 3), tiles)
                for pairs in ((), GLUED, (((wrong, "0"), (wrong, "0")),)):
                    self.assertRaises(NotWord, certificates.is_table, polygon, pairs, ())
                    self.assertRaises(NotWord, certificates.is_overlap, polygon, pairs, ())
                    self.assertRaises(NotWord, certificates.shown, polygon, pairs, ())
                    self.assertRaises(NotWord, certificates.laid, polygon, pairs, (), "")
            self.assertRaises(NotWord, certificates.laid, FREE, mirrors(FREE), TABLE, wrong)
            self.assertRaises(NotWord, certificates.laid, FREE, (), (), wrong)
        self.assertIsNotNone(certificates.laid(FREE, mirrors(FREE), TABLE, "0" * 60))
        polygon = ((0, 0, 0), ("012" * 20,))
        self.assertEqual(certificates.shown(polygon, mirrors(polygon), answer_of(polygon, mirrors(polygon))), "fits")


if __name__ == "__main__":
    unittest.main()
