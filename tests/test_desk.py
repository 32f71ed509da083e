"""Promises [280] to [283]: the desk, its commands and its answers."""

import random
import unittest

from foldfloor import border, copies, flat, groups, hulls, motions, pairing, polygons, rounds, search, surface
from foldfloor import ways, words
from foldfloor.desk import Desk
from foldfloor.errors import FoldError
from foldfloor.lines import number_in, words_of
from foldfloor.orders import check_orders
from tests.reference import ALL

START = ["floor f 3 4 2", "floor k 3 3 3", "word e -", "word a 0", "word b 012", "word c 01",
         "word l " + "012" * 20, "polygon p f e a", "polygon q k e a c", "mirrors m p", "glue g p 3"]

# The commands with the things that their words must name; N and X and T are what the document calls so.
FORMS = {"floor": "NXXX", "word": "NT", "drop": "N", "show": "*", "normal": "NFV", "inverse": "NFV", "times": "NFVV",
         "ends": "FV", "kind": "FV", "order": "FV", "distance": "FVV", "ways": "FVV", "place": "FV", "shift": "FV",
         "polygon": "NFV", "hull": "NFV", "grow": "NP", "move": "NPV", "has": "PV", "border": "P", "circles": "P",
         "area": "P", "euler": "P", "mirrors": "NP", "glue": "NPX", "fits": "G", "index": "G", "name": "G",
         "part": "GV", "ingroup": "GV"}

MANY = ("polygon", "hull")


def text(word):
    return word if word else "-"


def row(parts):
    return " ".join(str(part) for part in parts) if parts else "empty"


def truth(told):
    return "yes" if told else "no"


class Refused(Exception):
    """What a slow desk refuses."""


class Slow:
    """A desk by the table of [281], command after command."""

    def __init__(self):
        self.things = {}

    def kind(self, name):
        thing = self.things[name]
        if isinstance(thing, str):
            return "V"
        if len(thing) == 3:
            return "F"
        return "P" if len(thing[0]) == 3 and isinstance(thing[0][0], int) else "G"

    def wrong(self, line):
        """What is wrong with a line before its operation, or None."""
        told = words_of(line)
        if told is None or told[0] not in FORMS:
            return "bad"
        form = FORMS[told[0]]
        if told[0] in MANY:
            form += "V" * max(0, len(told) - 4)
        if len(told) != len(form) + 1:
            return "bad"
        for code, word in zip(form, told[1:]):
            small = 1 <= len(word) <= 12 and all("a" <= mark <= "z" for mark in word)
            if (code == "X" and number_in(word) is None) or (code not in "XT" and not small):
                return "bad"
        for code, word in zip(form, told[1:]):
            if code in "FVPG*":
                if word not in self.things:
                    return "unknown " + word
                if code != "*" and self.kind(word) != code:
                    return "kind " + word
        return None

    def answer(self, line):
        wrong = self.wrong(line)
        if wrong is not None:
            return wrong
        command, *names = line.split(" ")
        try:
            return getattr(self, "do_" + command)(*names)
        except (FoldError, Refused):
            return "refused"

    def get(self, *names):
        return [self.things[name] for name in names]

    def keep_word(self, name, word):
        if len(word) > 60:
            raise Refused
        self.things[name] = word
        return text(word)

    def keep_polygon(self, name, polygon):
        self.things[name] = polygon
        return str(len(polygon[1]))

    def keep_gluing(self, name, polygon, pairs):
        self.things[name] = (polygon, pairs)
        return str(len(pairs))

    def do_floor(self, name, *numbers):
        orders = tuple(int(number) for number in numbers)
        check_orders(orders)
        self.things[name] = orders
        return "ok"

    def do_word(self, name, told):
        if told != "-" and (set(told) - set("012") or len(told) > 60):
            raise Refused
        self.things[name] = "" if told == "-" else told
        return "ok"

    def do_drop(self, name):
        self.things.pop(name, None)
        return "ok"

    def do_show(self, name):
        thing = self.things[name]
        kind = self.kind(name)
        return text(thing) if kind == "V" else row(thing) if kind == "F" else str(len(thing[1]))

    def do_normal(self, name, *names):
        return self.keep_word(name, words.normal(*self.get(*names)))

    def do_inverse(self, name, *names):
        return self.keep_word(name, words.inverse(*self.get(*names)))

    def do_times(self, name, *names):
        return self.keep_word(name, words.times(*self.get(*names)))

    def do_ends(self, *names):
        return row(list(words.ends(*self.get(*names))))

    def do_kind(self, *names):
        return motions.kind_of_motion(*self.get(*names))

    def do_order(self, *names):
        found = motions.order_of_motion(*self.get(*names))
        return "endless" if found is None else str(found)

    def do_distance(self, *names):
        return str(ways.distance(*self.get(*names)))

    def do_ways(self, *names):
        return str(ways.count_ways(*self.get(*names)))

    def do_place(self, *names):
        return row(flat.place(*self.get(*names)))

    def do_shift(self, *names):
        return row(flat.shift_of(*self.get(*names)))

    def do_polygon(self, name, floor, *names):
        return self.keep_polygon(name, polygons.polygon_of(self.things[floor], self.get(*names)))

    def do_hull(self, name, floor, *names):
        return self.keep_polygon(name, hulls.hull_polygon(self.things[floor], self.get(*names)))

    def do_grow(self, name, polygon):
        return self.keep_polygon(name, polygons.grown(*self.get(polygon)))

    def do_move(self, name, *names):
        return self.keep_polygon(name, polygons.moved(*self.get(*names)))

    def do_has(self, *names):
        return truth(polygons.contains(*self.get(*names)))

    def do_border(self, name):
        return str(len(polygons.border_sides(*self.get(name))))

    def do_circles(self, name):
        return row([len(circle) for circle in border.circles(*self.get(name))])

    def do_area(self, name):
        return row(border.area(*self.get(name)))

    def do_euler(self, name):
        return str(border.euler_number(*self.get(name)))

    def do_mirrors(self, name, polygon):
        return self.keep_gluing(name, self.things[polygon], pairing.mirrors(*self.get(polygon)))

    def do_glue(self, name, polygon, number):
        return self.keep_gluing(name, self.things[polygon], search.pairing_at(*self.get(polygon), int(number)))

    def do_fits(self, name):
        return truth(rounds.fits(*self.things[name]))

    def do_index(self, name):
        return str(groups.index_of(*self.things[name]))

    def do_name(self, name):
        has, handles, circles, holes, cones, corners = surface.name_of(*self.things[name])
        return row([truth(has), handles, circles, holes, "/"] + list(cones) + ["/"] + list(corners))

    def do_part(self, name, word):
        found, place = copies.part_of(*self.things[name], self.things[word])
        return row(list(found) + [text(place)])

    def do_ingroup(self, name, word):
        return truth(copies.in_group(*self.things[name], self.things[word]))


def desk_with(lines):
    desk = Desk()
    told = [desk.answer(line) for line in lines]
    assert "refused" not in told and "bad" not in told
    return desk


def state(desk):
    return {name: desk.thing(name) for name in desk.names()}


def some_name(source, code, slow):
    """A name, mostly one that has a thing of the right kind."""
    right = [name for name in sorted(slow.things) if code in ("*", slow.kind(name))]
    if code != "N" and right and source.random() < 0.9:
        return source.choice(right)
    return source.choice(["f", "v", "w", "p", "m", "n", "q", "x", "y"])


def some_line(source, slow):
    """A line, mostly one that can be answered."""
    command = source.choice(list(FORMS))
    form = FORMS[command] + ("V" * source.randint(0, 2) if command in MANY else "")
    found = [command]
    for code in form:
        if code == "X":
            found.append(source.choice(["0", "2", "2", "3", "3", "4", "6", "1", "99", "100", "07"]))
        elif code == "T":
            found.append(source.choice(["-", "0", "1", "2", "01", "0120", "2101", "x", "--", "012" * 20, "0" * 61]))
        else:
            found.append(some_name(source, code, slow))
    if source.random() < 0.03:
        found.append(source.choice(["a", "3", "", "B"]))
    if source.random() < 0.03:
        found.pop()
    return " ".join(found)


class AgainstTable(unittest.TestCase):
    def test_random_lines(self):
        source = random.Random(161)
        answers = set()
        for _ in range(25):
            desk, slow = Desk(), Slow()
            orders = source.choice(ALL + [(3, 3, 3), (2, 4, 4), (4, 4, 4)])
            lines = ["floor f " + row(orders), "word v 01", "word w -", "polygon p f w", "mirrors m p"]
            for number in range(150):
                line = lines[number] if number < len(lines) else some_line(source, slow)
                told = slow.answer(line)
                self.assertEqual(desk.answer(line), told, line)
                self.assertEqual(state(desk), slow.things)
                answers.add((line.split(" ")[0], told.split(" ")[0]))
        firsts = {told for _, told in answers}
        self.assertTrue(firsts.issuperset(["ok", "bad", "refused", "unknown", "kind", "yes", "no", "empty", "endless"]))
        self.assertGreater(len(answers), 250)

    def test_commands_on_things_of_their_kinds(self):
        source = random.Random(162)
        for _ in range(40):
            desk, slow = Desk(), Slow()
            orders = source.choice(ALL + [(3, 3, 3), (2, 4, 4), (3, 6, 2)])
            lines = ["floor f " + row(orders), "word u 0120", "word v 01", "word w -", "polygon p f w v"]
            lines += ["hull p f w v", "mirrors m p", "glue n p 1", "glue n p 3", "grow q p", "mirrors o q"]
            places = {"F": "f", "V": "uvw", "P": "pq", "G": "mno", "*": "fuvwpqmno"}
            for command, form in FORMS.items():
                for _ in range(3):
                    names = [source.choice(places.get(code, "z")) if code not in "XT" else "2" for code in form]
                    lines.append(" ".join([command] + names))
            for line in lines:
                self.assertEqual(desk.answer(line), slow.answer(line), line)
                self.assertEqual(state(desk), slow.things)


class Rows(unittest.TestCase):
    """Each row of the table: its effect and its answer."""

    def check(self, *told, start=START):
        desk = desk_with(start)
        for line, answer in told:
            self.assertEqual(desk.answer(line), answer, line)
        return desk

    def test_floor(self):
        desk = self.check(("floor g 0 12 2", "ok"), ("floor f 2 2 2", "ok"), ("floor g 1 3 3", "refused"),
                          ("floor h 13 3 3", "refused"), ("floor h 3 3 99", "refused"), ("floor a 3 3 3", "ok"))
        self.assertEqual((desk.thing("g"), desk.thing("f"), desk.thing("a")), ((0, 12, 2), (2, 2, 2), (3, 3, 3)))
        self.assertNotIn("h", desk.names())

    def test_word_and_drop(self):
        desk = self.check(("word w 0120", "ok"), ("word x -", "ok"), ("word f 11", "ok"), ("word y 3", "refused"),
                          ("word y --", "refused"), ("word y 01-", "refused"), ("word y " + "0" * 61, "refused"),
                          ("word z " + "0" * 60, "ok"), ("word w x", "refused"), ("drop a", "ok"), ("drop a", "ok"),
                          ("drop nothing", "ok"), ("show a", "unknown a"))
        self.assertEqual((desk.thing("w"), desk.thing("x"), desk.thing("f")), ("0120", "", "11"))
        self.assertEqual(desk.thing("z"), "0" * 60)
        self.assertIsNone(desk.thing("a"))
        self.assertIsNone(desk.thing("y"))

    def test_show(self):
        self.check(("show f", "3 4 2"), ("show k", "3 3 3"), ("show e", "-"), ("show b", "012"), ("show p", "2"),
                   ("show q", "3"), ("show m", "4"), ("show g", "2"), ("show z", "unknown z"))

    def test_words(self):
        desk = self.check(("word w 101", "ok"), ("normal n f w", "010"), ("normal n f e", "-"),
                          ("inverse i f b", "210"),
                          ("times t f a b", "12"), ("times u f a a", "-"), ("times t k l l", "refused"),
                          ("times t k l b", "refused"), ("normal w f w", "010"), ("normal f f w", "010"),
                          ("normal x f w", "kind f"))
        self.assertEqual([desk.thing(name) for name in "niutwf"], ["", "210", "", "12", "010", "010"])

    def test_sixty_letters(self):
        desk = self.check(("floor o 0 0 0", "ok"), ("word m " + "012" * 19 + "01", "ok"), ("word s 2", "ok"),
                          ("times t o m s", "012" * 20), ("times u o t a", "refused"), ("times t o t a", "refused"),
                          ("times e o t s", "012" * 19 + "01"), ("inverse t o t", "210" * 20))
        self.assertEqual(desk.thing("t"), "210" * 20)
        self.assertIsNone(desk.thing("u"))

    def test_motions(self):
        self.check(("ends f b", "2"), ("word w 010", "ok"), ("ends f w", "0 1"), ("ends f e", "empty"),
                   ("kind f e", "rest"), ("kind k w", "mirror"), ("word w 0121", "ok"), ("kind k w", "shift"),
                   ("order k w", "endless"), ("order k b", "endless"), ("order f e", "1"), ("order f a", "2"),
                   ("order f b", "6"), ("kind f b", "turned mirror"), ("kind k b", "glide"), ("word w 01", "ok"),
                   ("kind k w", "turn"), ("order k w", "3"))

    def test_ways(self):
        self.check(("distance f e b", "3"), ("distance f b b", "0"), ("word w 010", "ok"), ("ways f e w", "2"),
                   ("ways f w e", "2"), ("ways f w w", "1"), ("distance f a w", "2"))

    def test_places(self):
        self.check(("place k a", "-1 2 2"), ("word w 10", "ok"), ("place k w", "1 -2 4"), ("place k e", "1 1 1"),
                   ("word w 0121", "ok"), ("shift k w", "-6 3 3"), ("shift k e", "0 0 0"), ("shift k a", "refused"),
                   ("place f a", "refused"), ("shift f e", "refused"))

    def test_polygons(self):
        desk = self.check(("polygon r f e", "1"), ("polygon r f e a a e", "2"), ("polygon s f e b", "refused"),
                          ("polygon f f a", "1"), ("hull h k e b", "4"), ("hull e k b", "1"), ("hull s k l a", "60"),
                          ("word w -", "ok"), ("hull t k l w", "refused"))
        self.assertEqual(desk.thing("r"), ((3, 4, 2), ("", "0")))
        self.assertEqual(desk.thing("f"), ((3, 4, 2), ("0",)))
        self.assertEqual(desk.thing("h"), ((3, 3, 3), ("", "0", "01", "012")))
        self.assertEqual(desk.thing("e"), ((3, 3, 3), ("012",)))
        self.assertEqual(desk.thing("s"), ((3, 3, 3), tuple(("012" * 20)[:many] for many in range(1, 61))))
        self.assertIsNone(desk.thing("t"))

    def test_many_words(self):
        desk = self.check(("polygon r f" + " e a" * 40, "2"), ("hull h f" + " e a" * 30, "2"),
                          ("hull i f" + " e a" * 30 + " e", "refused"), ("polygon e f e", "1"),
                          ("polygon r f", "bad"), ("hull r f", "bad"), ("polygon r f e a a e", "kind e"))
        self.assertEqual(desk.thing("e"), ((3, 4, 2), ("",)))

    def test_changed_polygons(self):
        desk = self.check(("grow r p", "6"), ("move s p b", "2"), ("move a s a", "2"), ("floor o 0 0 0", "ok"),
                          ("polygon x o e", "1"), ("grow x x", "4"), ("grow x x", "10"), ("grow x x", "22"),
                          ("grow x x", "46"), ("grow x x", "refused"), ("word z 1", "ok"), ("polygon y o l", "1"),
                          ("word w 2", "ok"), ("move y y w", "refused"), ("grow y y", "refused"), ("show x", "46"))
        self.assertEqual(desk.thing("r"), polygons.grown(((3, 4, 2), ("", "0"))))
        self.assertEqual(desk.thing("s"), polygons.moved(((3, 4, 2), ("", "0")), "012"))
        self.assertEqual(desk.thing("a"), polygons.moved(desk.thing("s"), "0"))
        self.assertEqual(desk.thing("y"), ((0, 0, 0), ("012" * 20,)))

    def test_questions_about_polygons(self):
        self.check(("has p a", "yes"), ("has p b", "no"), ("has p l", "no"), ("border p", "4"), ("circles p", "4"),
                   ("area p", "-1 6"), ("area q", "0 1"), ("euler p", "1"), ("euler q", "1"), ("border q", "5"),
                   ("floor t 2 2 2", "ok"), ("polygon x t e", "1"), ("grow x x", "4"), ("grow x x", "7"),
                   ("circles x", "3"), ("grow x x", "8"), ("circles x", "empty"), ("border x", "0"), ("euler x", "2"))

    def test_circles_in_order(self):
        # The tiles around a tile, but not this one: the inner circle is that of its three sides.
        floor = (3, 3, 3)
        tiles = [tile for tile in polygons.grown(polygons.grown(polygons.grown((floor, ("",)))))[1] if tile != ""]
        names = ["a" + "abcdefghijklmnopqrstuvwxyz"[k] for k in range(len(tiles))]
        desk = desk_with(["floor k 3 3 3"] + [f"word {name} {tile}" for name, tile in zip(names, tiles)])
        self.assertEqual(desk.answer("polygon p k " + " ".join(names)), str(len(tiles)))
        told = [len(circle) for circle in border.circles((floor, tuple(tiles)))]
        self.assertEqual(sorted(told)[0], 3)
        self.assertEqual(len(told), 2)
        self.assertEqual(desk.answer("circles p"), row(told))

    def test_gluings(self):
        desk = self.check(("mirrors n p", "4"), ("glue h p 0", "4"), ("glue i p 1", "3"), ("glue i p 4", "refused"),
                          ("glue i p 99", "refused"), ("fits m", "no"), ("fits g", "yes"), ("index g", "2"),
                          ("index m", "refused"), ("mirrors f p", "4"), ("fits f", "no"), ("glue p p 3", "2"),
                          ("fits p", "yes"), ("glue p p 3", "kind p"))
        two = ((3, 4, 2), ("", "0"))
        self.assertEqual(desk.thing("h"), desk.thing("n"))
        self.assertEqual(desk.thing("n"), (two, pairing.mirrors(two)))
        self.assertEqual(desk.thing("i"), (two, search.pairing_at(two, 1)))
        self.assertEqual(desk.thing("p"), desk.thing("g"))

    def test_names(self):
        self.check(("polygon o f e", "1"), ("mirrors t o", "3"), ("name t", "yes 0 1 0 / / 2 3 4"),
                   ("name g", "yes 0 0 0 / 2 3 4 /"), ("name m", "refused"), ("floor z 0 0 0", "ok"),
                   ("polygon o z e", "1"), ("mirrors t o", "3"), ("name t", "yes 0 1 0 / / 0 0 0"),
                   ("polygon o z e a", "2"), ("glue t o 3", "2"), ("name t", "yes 0 0 3 / /"),
                   ("floor z 2 2 2", "ok"), ("polygon o z e", "1"), ("grow o o", "4"), ("grow o o", "7"),
                   ("grow o o", "8"), ("mirrors t o", "0"), ("name t", "yes 0 0 0 / /"), ("index t", "8"))

    def test_surfaces_without_sides(self):
        # Two sides of the same tile's parity are glued.
        desk = desk_with(["floor z 0 0 0", "word e -", "word a 0", "word b 01", "polygon p z e a b"])
        told = set()
        for number in range(int(desk.answer("mirrors m p")) * 4):
            if desk.answer(f"glue g p {number}") != "refused":
                told.add(desk.answer("name g").split(" ")[0])
        self.assertEqual(told, {"yes", "no"})

    def test_parts(self):
        self.check(("part g a", "0"), ("part g e", "-"), ("word w 1", "ok"), ("part g w", "-1 0"),
                   ("word w 01", "ok"), ("part g w", "1 -"), ("ingroup g e", "yes"), ("ingroup g a", "no"),
                   ("ingroup g w", "yes"), ("part m a", "refused"), ("ingroup m a", "refused"),
                   ("polygon o f e", "1"), ("mirrors t o", "3"), ("part t b", "1 2 3 -"), ("ingroup t l", "yes"))


class Bad(unittest.TestCase):
    def check(self, answer, *lines):
        desk = desk_with(START)
        before = state(desk)
        for line in lines:
            self.assertEqual(desk.answer(line), answer, line)
        self.assertEqual(state(desk), before)

    def test_malformed_lines(self):
        self.check("bad", "", " ", "show f ", " show f", "show  f", "show\tf", "show f\n", "show %", "word w 0%",
                   "show \u00e9", "word w\x7f 0")

    def test_commands(self):
        self.check("bad", "shows f", "Show f", "SHOW f", "f", "-", "3", "answer f", "names", "ok", "height f",
                   "grown z p",
                   "polygon_of z f e", "circle p")

    def test_numbers_of_words(self):
        for command, form in FORMS.items():
            names = {"N": "z", "F": "f", "V": "e", "P": "p", "G": "g", "*": "f", "X": "2", "T": "0"}
            right = [command] + [names[code] for code in form]
            self.check("bad", *[" ".join(right[:many]) for many in range(1, len(right))])
            if command not in MANY:
                self.check("bad", " ".join(right + ["e"]), " ".join(right + ["2"]))
            # The right line is none of these.
            self.assertNotIn(desk_with(START).answer(" ".join(right)).split(" ")[0], ("bad", "unknown", "kind"))

    def test_names(self):
        for name in ("A", "a1", "abcdefghijklm", "-", "1", "a_b", "a-", "\u00e9", "f."):
            for command, form in FORMS.items():
                for at, code in enumerate(form):
                    if code not in "XT":
                        # No other name has anything: what is bad comes first.
                        told = ["y" if code not in "XT" else "2" for code in form]
                        told[at] = name
                        self.check("bad", " ".join([command] + told))
        self.check("unknown abcdefghijkl", "show abcdefghijkl")

    def test_numbers(self):
        for wrong in ("100", "07", "00", "-1", "+1", "x", "1.", "1000"):
            self.check("bad", f"floor z {wrong} 3 3", f"floor z 3 {wrong} 3", f"floor z 3 3 {wrong}",
                       f"glue z p {wrong}",
                       f"glue z y {wrong}", f"glue z f {wrong}")

    def test_unknown(self):
        self.check("unknown y", "show y", "normal z y a", "normal z f y", "times z f a y", "times z f y a", "ends y y",
                   "ends y f", "ends f y", "polygon z f a y", "polygon z f y b z", "polygon z y a", "hull z y q r",
                   "grow z y", "move z y y", "move z p y", "has y a", "glue z y 99", "fits y", "part y y", "part g y")

    def test_kind(self):
        self.check("kind p", "normal z p a", "normal z f p", "times z f p y", "times z p y y", "ends p y", "ends p f",
                   "polygon z f a p y", "hull z p y", "fits p", "name p", "index p", "part p y", "part p a",
                   "ingroup g p")
        self.check("kind f", "grow z f", "has f a", "border f", "area f", "euler f", "circles f", "mirrors z f",
                   "glue z f 1", "move z p f", "fits f", "part g f", "normal z f f", "ways f e f")
        self.check("kind g", "grow z g", "border g", "has g y", "ends g a", "ends f g")
        self.check("kind a", "fits a", "border a", "move z a y", "normal z a b", "times z a b b")

    def test_from_left_to_right(self):
        self.check("kind a", "ends a y", "part a y", "has a p")
        self.check("unknown y", "ends y a", "ends f y", "times z f y f", "times z y f f", "part y f", "has y f",
                   "move z y f")
        self.check("kind f", "times z f f y", "times z f a f")
        self.check("kind p", "part p y")

    def test_refused_comes_last(self):
        self.check("refused", "floor z 1 1 1", "floor f 3 3 1", "word z 3", "word e 3", "glue z p 4", "index m",
                   "name m",
                   "part m a", "ingroup m a", "place f a", "shift k a", "polygon z f e b", "polygon p f e b",
                   "times z k l l", "times l k l l")
        self.check("unknown y", "place y a", "part m y", "polygon z f e b y", "shift k y")
        self.check("kind p", "place f p", "part m p", "polygon z f e b p", "shift k p")


class SameName(unittest.TestCase):
    def test_another_thing_in_its_place(self):
        desk = desk_with(START)
        for line, answer, thing in (
                ("word p 0", "ok", "0"), ("floor p 3 3 3", "ok", (3, 3, 3)),
                ("polygon p p e", "1", ((3, 3, 3), ("",))),
                ("mirrors p p", "3", (((3, 3, 3), ("",)), pairing.mirrors(((3, 3, 3), ("",))))),
                ("word p 11", "ok", "11"), ("normal p k p", "-", ""), ("word p 0", "ok", "0"),
                ("times f f p p", "-", ""), ("hull q k f p", "2", ((3, 3, 3), ("", "0"))),
                ("glue q q 3", "2", (((3, 3, 3), ("", "0")), search.pairing_at(((3, 3, 3), ("", "0")), 3)))):
            self.assertEqual(desk.answer(line), answer, line)
            self.assertEqual(desk.thing(line.split(" ")[1]), thing)

    def test_refused_lines_change_nothing(self):
        desk = desk_with(START)
        before = state(desk)
        for line in ("times p k l l", "glue m p 50", "word m x", "floor p 1 1 1", "polygon p f e b", "grow p y"):
            desk.answer(line)
            self.assertEqual(state(desk), before)


class Things(unittest.TestCase):
    def test_new_desk(self):
        desk = Desk()
        self.assertEqual(desk.names(), [])
        self.assertIsNone(desk.thing("a"))
        self.assertIsNone(desk.thing(""))
        self.assertEqual(desk.answers([]), [])
        self.assertEqual(desk.answer("show a"), "unknown a")

    def test_names(self):
        desk = desk_with(["word z 0", "word a 1", "floor mm 3 3 3", "word m -", "word abcdefghijkl 2"])
        self.assertEqual(desk.names(), ["a", "abcdefghijkl", "m", "mm", "z"])
        desk.answer("drop m")
        desk.answer("word a 2")
        self.assertEqual(desk.names(), ["a", "abcdefghijkl", "mm", "z"])
        desk.names().clear()
        self.assertEqual(desk.names(), ["a", "abcdefghijkl", "mm", "z"])

    def test_things(self):
        desk = desk_with(START)
        two = ((3, 4, 2), ("", "0"))
        self.assertEqual(desk.thing("f"), (3, 4, 2))
        self.assertEqual(desk.thing("e"), "")
        self.assertEqual(desk.thing("p"), two)
        self.assertEqual(desk.thing("m"), (two, pairing.mirrors(two)))
        for name in ("y", "", "A", "ff", "floor"):
            self.assertIsNone(desk.thing(name))

    def test_answers(self):
        source = random.Random(163)
        for _ in range(5):
            slow = Slow()
            lines = list(START)
            for line in lines:
                slow.answer(line)
            lines += [some_line(source, slow) for _ in range(60)] + ["", "bad line"]
            given = list(lines)
            one, other = Desk(), Desk()
            told = [one.answer(line) for line in lines]
            self.assertEqual(other.answers(lines), told)
            self.assertEqual(lines, given)
            self.assertEqual(state(one), state(other))
            # The answers to the first lines do not depend on the lines behind them.
            for many in (0, 1, 7, 40):
                self.assertEqual(Desk().answers(lines[:many]), told[:many])

    def test_two_desks(self):
        one, other = Desk(), Desk()
        one.answer("word a 0")
        self.assertEqual(other.names(), [])
        other.answer("word a 1")
        self.assertEqual((one.thing("a"), other.thing("a")), ("0", "1"))
        one.answer("drop a")
        self.assertEqual(other.thing("a"), "1")


if __name__ == "__main__":
    unittest.main()
