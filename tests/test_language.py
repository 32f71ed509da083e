"""The program keeps to its small part of Python, and defines its interface where it is listed."""

import ast
import builtins
import importlib
import inspect
import pathlib
import re
import unittest

PACKAGE = pathlib.Path(__file__).resolve().parent.parent / "foldfloor"
FILES = sorted(PACKAGE.iterdir())

BUILTINS = set("""len range enumerate zip min max sum abs sorted reversed int str bool list tuple
    dict set isinstance ord repr any all divmod iter next ValueError TypeError KeyError super""".split())

METHODS = set("""append clear copy count endswith extend find get index insert isalnum isalpha isdigit
    islower isspace isupper items join keys ljust lower lstrip partition pop remove replace reverse
    rfind rjust rpartition rsplit rstrip setdefault split splitlines startswith strip update upper
    values zfill bit_length add discard""".split())

BARRED = set("""type typing enum Enum IntEnum StrEnum Flag IntFlag Generic Protocol ABC ABCMeta
    namedtuple NamedTuple TypedDict TYPE_CHECKING abstractmethod""".split())

NAMES = set("""register mro elements open input law version_info with_traceback add_note breakpoint
    compile copyright delattr dir eval exec exit gc getattr globals hasattr help id license locals os
    quit setattr vars sys float chr hash map filter format round slice object""".split())

NOT_ALLOWED = (ast.Global, ast.AsyncFunctionDef, ast.AsyncFor, ast.AsyncWith, ast.Await,
               ast.GeneratorExp, ast.Div)

INTERFACE = {
    "orders": {"is_orders": "orders", "check_orders": "orders", "order_of": "orders one other",
               "check_word": "word", "kind_of": "orders"},
    "words": {"normal": "orders word", "length": "orders word", "is_shortest": "orders word",
              "same_tile": "orders one other", "ends": "orders word",
              "left_out": "orders word letter", "times": "orders one other",
              "inverse": "orders word", "power": "orders word exponent"},
    "steps": {"stepped": "orders word step", "walked": "orders word log",
              "is_log": "orders start end log", "undone": "orders word log",
              "derive": "orders word", "connect": "orders one other"},
    "rings": {"ring": "orders n", "ball": "orders n", "counts": "orders n",
              "around": "orders tile one other", "cells": "orders n"},
    "series": {"series": "orders", "expand": "fraction n", "is_reduced": "fraction"},
    "walls": {"wall_of": "orders tile letter", "crossings": "orders tile way",
              "is_mirror": "orders motion", "is_near": "orders wall tile",
              "mirrored": "orders wall tile", "sides_between": "orders wall one other",
              "parting": "orders one other", "wall_moved": "orders motion wall"},
    "ways": {"distance": "orders one other", "count_ways": "orders one other",
             "all_ways": "orders one other", "between": "orders one other",
             "is_between": "orders tile one other"},
    "polygons": {"is_polygon": "polygon", "check_polygon": "polygon",
                 "polygon_of": "orders words", "contains": "polygon word",
                 "border_sides": "polygon", "inner_sides": "polygon", "grown": "polygon",
                 "moved": "polygon word"},
    "border": {"passage": "polygon side letter", "circles": "polygon", "border_corners": "polygon",
               "angle": "orders passage", "tile_area": "orders", "area": "polygon",
               "euler_number": "polygon", "is_disc": "polygon"},
    "hulls": {"parting_all": "orders words", "hull": "orders words", "is_convex": "orders words",
              "hull_polygon": "orders words", "gate": "orders word tile corner"},
    "pairing": {"is_pairing": "polygon pairs", "check_pairing": "polygon pairs", "mirrors": "polygon",
                "pair_motion": "polygon pairs k", "row_motion": "polygon pairs row",
                "walked": "polygon pairs tile word"},
    "rounds": {"rounds_of": "polygon pairs", "fits": "polygon pairs", "overlap": "polygon pairs"},
    "copies": {"part_of": "polygon pairs tile", "place_of": "polygon pairs tile",
               "cut_row": "polygon pairs row", "in_group": "polygon pairs word",
               "copy_of": "polygon pairs row"},
    "groups": {"relations": "polygon pairs", "index_of": "polygon pairs",
               "same_group": "one pairs other others", "is_normal": "polygon pairs"},
    "surface": {"side_count": "polygon pairs", "rim": "polygon pairs", "has_sides": "polygon pairs",
                "euler_number": "polygon pairs", "exact_euler_number": "polygon pairs",
                "handles": "polygon pairs", "name_of": "polygon pairs"},
    "images": {"check_images": "polygon pairs images", "permutation_of": "polygon pairs images row",
               "satisfies": "polygon pairs images", "is_transitive": "polygon pairs images",
               "all_images": "polygon pairs degree"},
    "covers": {"copy_rows": "polygon pairs images", "cover": "polygon pairs images",
               "in_lower": "polygon pairs images word", "is_regular": "polygon pairs images"},
    "walk": {"first_way": "chart start end", "reach": "chart tile steps", "floor_way": "chart one other most",
             "ends": "chart tile"},
    "motions": {"order_of_motion": "orders word", "kind_of_motion": "orders word",
                "conjugate": "orders word by", "mirror_place": "orders word", "turn_place": "orders word",
                "moved": "orders word tile"},
    "flat": {"has_places": "orders", "height": "orders", "marks": "orders", "place": "orders word",
             "slopes": "orders place", "is_place": "orders place", "tile_at": "orders place",
             "steps_to": "orders place", "is_shift": "orders word", "shift_of": "orders word"},
    "picture": {"picture": "orders words", "tiles_in": "orders picture_text corner"},
    "search": {"count_pairings": "polygon", "all_pairings": "polygon", "pairing_at": "polygon number",
               "fitting_pairings": "polygon most", "group_classes": "polygon most"},
    "answers": {"answer_of": "polygon pairs", "full_list": "orders word"},
    "certificates": {"is_log": "orders start end log", "is_full": "orders words",
                     "is_table": "polygon pairs table", "is_overlap": "polygon pairs certificate",
                     "laid": "polygon pairs table word", "shown": "polygon pairs answer"},
    "lines": {"words_of": "line", "is_name": "word", "number_in": "word", "text_of": "word",
              "word_in": "text"},
    "journal": {"attempt": "journal lines keep", "resume": "text"},
}

# The arguments that are told by their names, with what they are if they are not told.
KEYWORDS = {("walk", "floor_way", "most"): 12, ("search", "fitting_pairings", "most"): 200,
            ("search", "group_classes", "most"): 200, ("journal", "attempt", "keep"): False}

# The methods that the interface lists for classes, with their arguments behind the object itself.
CLASSES = {
    ("words", "Tiles"): {"__init__": "orders", "normal": "word", "beyond": "tile letter",
                         "ends": "word"},
    ("rounds", "Round"): {"__len__": ""},
    ("maps", "Map"): {"__init__": "polygon pairs closed", "closed_sides": "", "is_open": "tile letter",
                      "rooms": "", "room_of": "tile", "with_closed": "tile letter",
                      "with_open": "tile letter", "__eq__": "other", "__len__": ""},
    ("desk", "Desk"): {"__init__": "", "answer": "line", "answers": "lines", "names": "", "thing": "name"},
    ("journal", "Journal"): {"__init__": "", "answer": "line", "record": "", "lines": "", "keep": "",
                             "__enter__": "", "__exit__": "kind value trace"},
}


def trees():
    return [(file, ast.parse(file.read_text())) for file in FILES if file.suffix == ".py"]


class Files(unittest.TestCase):
    def test_only_plain_files(self):
        for file in FILES:
            if file.name != "__pycache__":
                self.assertRegex(file.name, r"^[a-z0-9_]+\.py$")

    def test_sizes_and_characters(self):
        for file, tree in trees():
            text = file.read_text()
            rows = text.split("\n")
            self.assertLessEqual(len(rows), 399, file)
            self.assertTrue(all(len(row) <= 120 for row in rows), file)
            self.assertTrue(all(mark == "\n" or " " <= mark <= "~" for mark in text), file)
            for node in ast.walk(tree):
                if isinstance(node, ast.FunctionDef):
                    self.assertLessEqual(node.end_lineno - node.lineno + 1, 40, node.name)


class Language(unittest.TestCase):
    def test_module_level(self):
        kinds = (ast.Expr, ast.ImportFrom, ast.FunctionDef, ast.ClassDef, ast.Assign)
        for file, tree in trees():
            for node in tree.body:
                self.assertIsInstance(node, kinds, file)
                if isinstance(node, ast.Expr):
                    self.assertIsInstance(node.value, ast.Constant)

    def test_imports(self):
        for file, tree in trees():
            for node in ast.walk(tree):
                self.assertNotIsInstance(node, ast.Import, file)
                if not isinstance(node, ast.ImportFrom):
                    continue
                self.assertEqual(node.level, 0)
                if node.module == "math":
                    self.assertTrue({name.name for name in node.names} <= {"gcd", "lcm"})
                    continue
                where, source = node.module.split(".")
                self.assertEqual(where, "foldfloor")
                defined = ast.parse((PACKAGE / f"{source}.py").read_text()).body
                names = {one.name for one in defined if hasattr(one, "name")}
                names |= {one.targets[0].id for one in defined if isinstance(one, ast.Assign)}
                for name in node.names:
                    self.assertIn(name.name, names)
                    self.assertIsNone(name.asname)

    def test_nothing_barred(self):
        for file, tree in trees():
            for node in ast.walk(tree):
                self.assertNotIsInstance(node, NOT_ALLOWED, (file, getattr(node, "lineno", 0)))
                if isinstance(node, (ast.FunctionDef, ast.ClassDef)):
                    self.assertEqual(node.decorator_list, [])
                if isinstance(node, ast.Constant):
                    self.assertNotIsInstance(node.value, (float, bytes, complex))
                    if isinstance(node.value, str):
                        self.assertNotIn("%", node.value)

    def test_names(self):
        own_names = set()
        for _, tree in trees():
            for node in ast.walk(tree):
                if isinstance(node, (ast.FunctionDef, ast.ClassDef)):
                    own_names.add(node.name)
        for file, tree in trees():
            for node in ast.walk(tree):
                if isinstance(node, ast.Name):
                    self.assertNotIn(node.id, NAMES | BARRED, file)
                    if hasattr(builtins, node.id):
                        self.assertIn(node.id, BUILTINS, file)
                        self.assertIsInstance(node.ctx, ast.Load)
                if isinstance(node, ast.arg):
                    self.assertFalse(hasattr(builtins, node.arg), (file, node.arg))
                if isinstance(node, ast.Attribute):
                    if isinstance(node.value, ast.Constant):
                        self.assertIn(node.attr, METHODS)
                if isinstance(node, ast.Call) and isinstance(node.func, ast.Attribute):
                    if node.func.attr != "__init__":
                        self.assertIn(node.func.attr, METHODS | own_names, file)

    def test_no_name_hides_an_import_or_a_class(self):
        for file, tree in trees():
            top = {name.name for node in tree.body if isinstance(node, ast.ImportFrom)
                   for name in node.names}
            top |= {node.name for node in tree.body if isinstance(node, ast.ClassDef)}
            for node in ast.walk(tree):
                if isinstance(node, ast.Name) and isinstance(node.ctx, ast.Store):
                    self.assertNotIn(node.id, top, file)
                if isinstance(node, ast.arg):
                    self.assertNotIn(node.arg, top, file)

    def test_barred_words(self):
        for file in FILES:
            if file.suffix == ".py":
                found = set(re.findall(r"[A-Za-z_]+", file.read_text()))
                self.assertEqual(found & BARRED, set(), file)

    def test_generators_have_names_of_their_own(self):
        names = [node.name for _, tree in trees() for node in ast.walk(tree)
                 if isinstance(node, ast.FunctionDef)]
        for file, tree in trees():
            for node in ast.walk(tree):
                if isinstance(node, ast.FunctionDef):
                    if any(isinstance(part, (ast.Yield, ast.YieldFrom)) for part in ast.walk(node)):
                        self.assertEqual(names.count(node.name), 1)


class Interface(unittest.TestCase):
    def test_functions_stand_in_their_files(self):
        for name, functions in INTERFACE.items():
            module = importlib.import_module(f"foldfloor.{name}")
            for function, arguments in functions.items():
                found = getattr(module, function)
                self.assertEqual(found.__module__, module.__name__)
                parameters = inspect.signature(found).parameters
                self.assertEqual(list(parameters), arguments.split())
                for argument, parameter in parameters.items():
                    told = KEYWORDS.get((name, function, argument), inspect.Parameter.empty)
                    self.assertEqual(parameter.default, told)
                    alone = parameter.kind == inspect.Parameter.KEYWORD_ONLY
                    self.assertEqual(alone, told is not inspect.Parameter.empty)

    def test_methods_stand_in_their_classes(self):
        for (name, class_name), methods in CLASSES.items():
            found = getattr(importlib.import_module(f"foldfloor.{name}"), class_name)
            self.assertEqual(found.__module__, f"foldfloor.{name}")
            for method, arguments in methods.items():
                parameters = list(inspect.signature(vars(found)[method]).parameters)
                self.assertEqual(parameters[1:], arguments.split())


if __name__ == "__main__":
    unittest.main()
