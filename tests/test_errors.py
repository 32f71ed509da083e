"""Promises [1], [60], [100], [103], [220]: which error a function raises, if several things are wrong."""

import unittest
from itertools import combinations

from foldfloor import (answers, border, certificates, copies, covers, errors, flat, groups, hulls, images, lines, maps,
                       motions, orders, pairing, picture, polygons, rings, rounds, search, series, steps, surface, walk,
                       walls, ways, words)
from foldfloor.errors import (BadNumber, BadStep, FoldError, Malformed, NoAnswer, NotFitting, NotFlat, NotImages,
                              NotOrders, NotPairing, NotPolygon, NotRow, NotSeries, NotWord, TooLarge)
from tests.test_border import NOT_POLYGONS
from tests.test_language import CLASSES, INTERFACE
from tests.test_polygons import WRONG_ORDERS

FLOOR = (3, 4, 2)

ROOT = (3, 3, 3)

ONE = (FLOOR, ("",))

TWO = (FLOOR, ("", "0"))

# The pairs of both sides 1 and of both sides 2, then all mirrors, which do not fit.
GLUED = ((("", "1"), ("0", "1")), (("", "2"), ("0", "2")))

UNFIT = pairing.mirrors(TWO)

THREE = pairing.mirrors(ONE)

SWAPPED = ((1, 0), (1, 0), (1, 0))

CHART = maps.Map(TWO, GLUED, [("", "1")])

WIDE = ((0, 0, 0), ("",))

FREE = maps.Map(WIDE, pairing.mirrors(WIDE), [])

# Each kind of wrong argument: values that are wrong, and the error.
WRONG = {
    "orders": (WRONG_ORDERS, NotOrders),
    "unflat": ([(2, 3, 5), (3, 7, 2), (2, 2, 0), (0, 0, 0)], NotFlat),
    "word": (["3", "0" * 61, "01 "], NotWord),
    "long": (["3", "0" * 201], NotWord),
    "letter": (["", "3", "01"], NotWord),
    "other letter": (["", "3", "01", "0"], NotWord),
    "words": ([["3"], ["0" * 61], ["", "0", "a"], [""] * 61 + ["x"]], NotWord),
    "long words": ([["3"], ["0" * 201], ["", "0", "a"]], NotWord),
    "no words": ([[]], NoAnswer),
    "many words": ([[""] * 61, ["0"] * 80], TooLarge),
    "polygon": (NOT_POLYGONS, NotPolygon),
    "pairs": ([(), GLUED[1:], GLUED + GLUED[:1], UNFIT[1:], ((("", "0"), ("", "0")),)], NotPairing),
    "unfit": ([UNFIT], NotFitting),
    "row": ([(0,), (3,), (-3,), (1,) * 201, (1, 2, 0)], NotRow),
    "images": ([(), ((0, 1),), ((0, 1), (0, 0)), ((0, 1), (0,)), ((), ()), ((0, 1, 2, 3, 4),) * 2], NotImages),
}


def wrong(kind, at):
    """A check of an argument: its place, wrong values and the error."""
    values, error = WRONG[kind]
    return at, values, error


def bad(at, error, *values):
    return at, list(values), error


def of_orders(module, names, kinds, good):
    """Functions that take orders first, with the same arguments."""
    checks = [wrong("orders", 0)] + [wrong(kind, at + 1) for at, kind in enumerate(kinds)]
    return [(getattr(module, name), (FLOOR,) + good, checks) for name in names.split()]


def of_polygon(module, names, good, *checks):
    """Functions that take a polygon and a pairing, which need not fit."""
    return [(getattr(module, name), (TWO, GLUED) + good, [wrong("polygon", 0), wrong("pairs", 1)] + list(checks))
            for name in names.split()]


def of_fitting(module, names, good, *checks):
    """Functions that take a polygon and a pairing that fits."""
    return of_polygon(module, names, good, wrong("unfit", 1), *checks)


def of_flat(module, names, good, *checks):
    return [(getattr(module, name), (ROOT,) + good, [wrong("orders", 0), wrong("unflat", 0)] + list(checks))
            for name in names.split()]


def listed(generator):
    """A call that goes through a generator."""
    def call(*given):
        return list(generator(*given))
    call.__name__ = generator.__name__
    call.__module__ = generator.__module__
    return call


def with_most(function):
    """A call that gives `most` by its name."""
    def call(*given):
        return function(*given[:-1], most=given[-1])
    call.__name__ = function.__name__
    call.__module__ = function.__module__
    return call


CASES = (
    of_orders(orders, "check_orders kind_of", [], ())
    + of_orders(orders, "order_of", ["letter", "other letter"], ("0", "1"))
    + [(orders.check_word, ("01",), [wrong("word", 0)])]
    + of_orders(words, "normal length is_shortest ends inverse", ["word"], ("01",))
    + of_orders(words, "same_tile times", ["word", "word"], ("01", "2"))
    + [(words.left_out, (FLOOR, "01", "1"), [wrong("orders", 0), wrong("word", 1), wrong("letter", 2),
                                             bad(1, NoAnswer, "00", "11", ""), bad(2, NoAnswer, "0", "2")]),
       (words.power, (FLOOR, "01", 3), [wrong("orders", 0), wrong("word", 1), bad(2, BadNumber, 31, -31, 10 ** 20)])]
    + [(steps.stepped, (FLOOR, "00", ("cut", 0)),
        [wrong("orders", 0), wrong("long", 1), bad(2, BadStep, ("cut", 1), ("put", -1, "0"), ("turn", 0, "0", "0"))])]
    + [(call, (FLOOR, "00", [("cut", 0)]), [wrong("orders", 0), wrong("long", 1), bad(2, BadStep, [("cut", 1)])])
       for call in (steps.walked, steps.undone)]
    + [(call, (FLOOR, "00", "", [("cut", 0)]), [wrong("orders", 0), wrong("long", 1), wrong("long", 2)])
       for call in (steps.is_log, certificates.is_log)]
    + of_orders(steps, "derive", ["word"], ("0101",))
    + of_orders(steps, "connect", ["word", "word"], ("0101", "10"))
    + [(getattr(rings, name), (FLOOR, 3), [wrong("orders", 0), bad(1, BadNumber, -1, 41)])
       for name in ("ring", "ball", "counts", "cells")]
    + [(rings.around, (FLOOR, "01", "0", "1"),
        [wrong("orders", 0), wrong("word", 1), wrong("letter", 2), wrong("other letter", 3),
         bad(0, NoAnswer, (0, 4, 2))])]
    + of_orders(series, "series", [], ())
    + [(series.expand, (([1], [1, -2]), 3), [bad(0, NotSeries, ([1, 0], [1]), ([1], []), ([1], [2])),
                                             bad(1, BadNumber, -1, 201)]),
       (series.is_reduced, (([1], [1, -2]),), [bad(0, NotSeries, ([1, 0], [1]), ([1], []), ([1], [2]))])]
    + of_orders(walls, "wall_of", ["word", "letter"], ("01", "2"))
    + of_orders(walls, "crossings parting", ["word", "word"], ("01", "2"))
    + of_orders(walls, "is_mirror", ["word"], ("01",))
    + [(call, (FLOOR, "0", "12"), [wrong("orders", 0), wrong("word", 1), wrong("word", 2), bad(1, NoAnswer, "01", "")])
       for call in (walls.is_near, walls.mirrored)]
    + [(walls.sides_between, (FLOOR, "0", "12", "1"),
        [wrong("orders", 0), wrong("word", 1), wrong("word", 2), wrong("word", 3), bad(1, NoAnswer, "01", "")]),
       (walls.wall_moved, (FLOOR, "12", "0"),
        [wrong("orders", 0), wrong("word", 1), wrong("word", 2), bad(2, NoAnswer, "01", "")])]
    + of_orders(ways, "distance count_ways between", ["word", "word"], ("01", "2"))
    + of_orders(ways, "is_between", ["word", "word", "word"], ("01", "2", ""))
    + [(listed(ways.all_ways), (FLOOR, "01", "2"), [wrong("orders", 0), wrong("word", 1), wrong("word", 2)])]
    + [(polygons.polygon_of, (FLOOR, ["", "0"]),
        [wrong("orders", 0), wrong("words", 1), bad(1, NotPolygon, [], ["", "01"])])]
    + [(getattr(module, name), (TWO,), [wrong("polygon", 0)]) for module, name in (
        (polygons, "check_polygon"), (polygons, "border_sides"), (polygons, "inner_sides"), (polygons, "grown"),
        (border, "circles"), (border, "border_corners"), (border, "area"), (border, "euler_number"),
        (border, "is_disc"), (pairing, "mirrors"), (search, "count_pairings"))]
    + [(polygons.contains, (TWO, "01"), [wrong("polygon", 0), wrong("word", 1)]),
       (polygons.moved, (((0, 0, 0), ("", "0")), "01"),
        [wrong("polygon", 0), wrong("word", 1), bad(1, TooLarge, "12" * 30)])]
    + [(border.passage, (TWO, ("", "1"), "0"),
        [wrong("polygon", 0), bad(1, NoAnswer, ("", "0"), ("1", "1"), ("", "3"), ("0", "")),
         bad(2, BadNumber, "1", "3", "", "01")]),
       (border.angle, (FLOOR, (("0", "1"), 2)), [wrong("orders", 0)]),
       (border.tile_area, (FLOOR,), [wrong("orders", 0)])]
    + [(getattr(hulls, name), (FLOOR, ["", "01"]),
        [wrong("orders", 0), wrong("words", 1), wrong("no words", 1), wrong("many words", 1)])
       for name in ("parting_all", "hull", "is_convex", "hull_polygon")]
    + [(hulls.gate, (FLOOR, "01", "2", ("0", "1")),
        [wrong("orders", 0), wrong("word", 1), wrong("word", 2),
         bad(3, BadNumber, ("1", "0"), ("0", "0"), ("0", "3"))])]
    + [(pairing.is_pairing, (TWO, GLUED), [wrong("polygon", 0)])]
    + of_polygon(pairing, "check_pairing", ())
    + of_polygon(pairing, "pair_motion", (0,), bad(2, BadNumber, -1, 2, 10 ** 20))
    + of_polygon(pairing, "row_motion", ((1, -2),), wrong("row", 2))
    + of_polygon(pairing, "walked", ("0", "01"), bad(2, BadNumber, "1", "00", "3", "0" * 61), wrong("word", 3))
    + of_polygon(rounds, "rounds_of fits overlap", ())
    + of_polygon(answers, "answer_of", ())
    + of_fitting(copies, "part_of place_of in_group", ("01",), wrong("word", 2))
    + of_fitting(copies, "cut_row copy_of", ((1, -2),), wrong("row", 2))
    + of_fitting(groups, "relations index_of is_normal", ())
    + [(groups.same_group, (TWO, GLUED, TWO, GLUED),
        [wrong("polygon", 0), wrong("pairs", 1), wrong("unfit", 1), wrong("polygon", 2), wrong("pairs", 3),
         wrong("unfit", 3)])]
    + of_fitting(surface, "side_count rim has_sides euler_number exact_euler_number handles name_of", ())
    + of_fitting(images, "check_images satisfies is_transitive", (((1, 0), (0, 1)),), wrong("images", 2))
    + of_fitting(images, "permutation_of", (((1, 0), (0, 1)), (1, 2)), wrong("images", 2), wrong("row", 3))
    + [(listed(images.all_images), (TWO, GLUED, 2),
        [wrong("polygon", 0), wrong("pairs", 1), wrong("unfit", 1), bad(2, BadNumber, 0, 4, -1)])]
    + of_fitting(covers, "copy_rows cover is_regular", (((0,), (0,)),),
                 wrong("images", 2), bad(2, NoAnswer, ((0, 1), (0, 1)), ((1, 0), (0, 1))))
    + of_fitting(covers, "in_lower", (((0,), (0,)), "01"),
                 wrong("images", 2), bad(2, NoAnswer, ((0, 1), (0, 1)), ((1, 0), (0, 1))), wrong("word", 3))
    + [(maps.Map, (TWO, GLUED, [("", "1")]),
        [wrong("polygon", 0), wrong("pairs", 1), wrong("unfit", 1),
         bad(2, BadNumber, [("1", "1")], [("", "3")], [("", "1"), ("", "")])])]
    + [(getattr(CHART, name), ("01", "2"), [wrong("word", 0), bad(1, BadNumber, "", "3", "01")])
       for name in ("is_open", "with_closed", "with_open")]
    + [(CHART.room_of, ("01",), [wrong("word", 0)])]
    + [(walk.first_way, (CHART, "01", "2"), [wrong("word", 1), wrong("word", 2)]),
       (walk.reach, (FREE, "01", 3), [wrong("word", 1), bad(2, BadNumber, -1, 13), bad(2, TooLarge, 12)]),
       (with_most(walk.floor_way), (FREE, "", "012012", 6),
        [wrong("word", 1), wrong("word", 2), bad(3, BadNumber, -1, 13)]),
       (walk.ends, (CHART, "01"), [wrong("word", 1)])]
    + of_orders(motions, "order_of_motion kind_of_motion", ["word"], ("01",))
    + of_orders(motions, "conjugate moved", ["word", "word"], ("01", "2"))
    + [(motions.mirror_place, (ROOT, "010"), [wrong("orders", 0), wrong("word", 1), bad(1, NoAnswer, "", "01", "012")]),
       (motions.turn_place, (ROOT, "01"), [wrong("orders", 0), wrong("word", 1), bad(0, NoAnswer, FLOOR),
                                           bad(1, NoAnswer, "", "0", "012", "0121")])]
    + [(flat.has_places, (ROOT,), [wrong("orders", 0)])]
    + of_flat(flat, "height marks", ())
    + of_flat(flat, "place is_shift", ("01",), wrong("word", 1))
    + of_flat(flat, "shift_of", ("0121",), wrong("word", 1), bad(1, NoAnswer, "0", "12"))
    + of_flat(flat, "slopes is_place", ((1, 1, 1),))
    + of_flat(flat, "steps_to", ((1, 1, 1),), bad(1, NoAnswer, (0, 0, 0), (1, 1, 2)))
    + of_flat(flat, "tile_at", ((1, 1, 1),), bad(1, NoAnswer, (0, 0, 0), (3 * 10 ** 9, 3, 1)),
              bad(1, TooLarge, (1 - 6 * 10 ** 9, 1 + 3 * 10 ** 9, 1 + 3 * 10 ** 9)))
    + of_flat(picture, "picture", (["", "0"],), wrong("words", 1), wrong("no words", 1), wrong("many words", 1))
    + of_flat(picture, "tiles_in", ("-#", (1, 2)), bad(1, Malformed, "", "#", "-#\n", "-x", "-\n\n"),
              bad(2, TooLarge, (1 + 3 * 10 ** 9, 2 - 3 * 10 ** 9)))
    + [(search.pairing_at, (TWO, 3), [wrong("polygon", 0), bad(1, BadNumber, -1, 4, 10 ** 20)]),
       (listed(search.all_pairings), (TWO,), [wrong("polygon", 0)])]
    + [(with_most(call), (TWO, 3), [wrong("polygon", 0), bad(1, BadNumber, -1, 2001)])
       for call in (search.fitting_pairings, search.group_classes)]
    + of_orders(answers, "full_list", ["word"], ("01",))
    + of_orders(certificates, "is_full", ["long words"], (["01"],))
    + [(lines.text_of, ("01",), [wrong("word", 0)]),
       (lines.word_in, ("01",), [wrong("word", 0), bad(0, NotWord, "", "--")])]
    + [(words.Tiles, (FLOOR,), [wrong("orders", 0)]),
       (words.Tiles(FLOOR).normal, ("0" * 400,), [bad(0, NotWord, "3", "0" * 401)]),
       (words.Tiles(FLOOR).ends, ("0" * 400,), [bad(0, NotWord, "3", "0" * 401)]),
       (words.Tiles(FLOOR).beyond, ("0" * 400, "1"), [bad(0, NotWord, "3", "0" * 401), wrong("letter", 1)])]
)

# What cannot be wrong, or what raises nothing for what is.
NEVER = {"is_orders", "is_polygon", "words_of", "is_name", "number_in", "resume", "attempt",
         "is_table", "is_overlap", "laid", "shown", "Round", "Desk", "Journal"}


def with_wrong(good, checks, choice):
    """The arguments with one wrong value for each check, the choice tells which ones."""
    given = list(good)
    for at, values, _ in checks:
        given[at] = values[choice % len(values)]
    return given


class Precedence(unittest.TestCase):
    def test_right_arguments(self):
        for call, good, _ in CASES:
            call(*good)

    def test_one_wrong_argument(self):
        for call, good, checks in CASES:
            for at, values, error in checks:
                for value in values:
                    given = good[:at] + (value,) + good[at + 1:]
                    with self.assertRaises(error, msg=(call, given)):
                        call(*given)

    def test_two_wrong_arguments(self):
        many = 0
        for call, good, checks in CASES:
            for first, second in combinations(checks, 2):
                if first[0] != second[0]:
                    for choice in range(max(len(first[1]), len(second[1]))):
                        given = with_wrong(good, [second, first], choice)
                        with self.assertRaises(first[2], msg=(call, given)):
                            call(*given)
                        many += 1
        self.assertGreater(many, 500)

    def test_all_arguments_wrong(self):
        for call, good, checks in CASES:
            for choice in range(7):
                # The first check of an argument comes last here, so that its value stands.
                given = with_wrong(good, checks[::-1], choice)
                with self.assertRaises(checks[0][2], msg=(call, given)):
                    call(*given)

    def test_nothing_is_left_out(self):
        called = {(call.__module__.split(".")[-1], call.__name__) for call, _, _ in CASES}
        for module, functions in INTERFACE.items():
            for name in functions:
                if name not in NEVER:
                    self.assertIn((module, name), called)
        for module, name in CLASSES:
            if name not in NEVER:
                self.assertIn((module, name), called)


class ThreeErrors(unittest.TestCase):
    """Orders that have no error of their own count as a wrong polygon."""

    def test_polygons_with_wrong_orders(self):
        for told in WRONG_ORDERS:
            polygon = (told, ("",))
            for call in (polygons.check_polygon, polygons.grown, border.circles, search.count_pairings):
                self.assertRaises(NotPolygon, call, polygon)
            for call in (pairing.check_pairing, rounds.fits, groups.index_of, surface.name_of, answers.answer_of):
                self.assertRaises(NotPolygon, call, polygon, THREE)
            self.assertRaises(NotPolygon, maps.Map, polygon, THREE, [])

    def test_second_polygons(self):
        # The orders of the two polygons are compared behind all that is wrong with them.
        other = ((3, 3, 3), ("",))
        self.assertRaises(BadNumber, groups.same_group, TWO, GLUED, other, pairing.mirrors(other))
        self.assertRaises(NotFitting, groups.same_group, TWO, UNFIT, other, pairing.mirrors(other))
        self.assertRaises(NotPairing, groups.same_group, TWO, GLUED, other, ())
        self.assertRaises(NotFitting, groups.same_group, TWO, UNFIT, other, ())

    def test_too_many_pairs(self):
        wide = ((0, 0, 0), ("", "0", "1", "2"))
        pairs = pairing.mirrors(wide)
        self.assertRaises(TooLarge, list, images.all_images(wide, pairs, 2))
        self.assertRaises(BadNumber, list, images.all_images(wide, pairs, 4))

    def test_covers(self):
        self.assertRaises(NoAnswer, covers.in_lower, TWO, GLUED, ((0, 1), (0, 1)), "3")
        self.assertRaises(NotWord, covers.in_lower, ONE, THREE, SWAPPED, "3")


class Classes(unittest.TestCase):
    def test_all_below_one(self):
        names = """NotOrders NotWord NotSeries NotPolygon NotPairing NotRow NotFitting NotFlat NotFinite NotImages
            BadNumber TooLarge NoAnswer OpenTrial BadStep Malformed BadJournal""".split()
        self.assertEqual(FoldError.__bases__, (ValueError,))
        for name in names:
            self.assertEqual(getattr(errors, name).__bases__, (FoldError,))
            self.assertEqual(getattr(errors, name).__module__, "foldfloor.errors")
        for name in names[:-3]:
            self.assertEqual(str(getattr(errors, name)("a message")), "a message")
        self.assertEqual((BadStep(3).at, Malformed(4).at, errors.BadJournal(5).row), (3, 4, 5))


if __name__ == "__main__":
    unittest.main()
