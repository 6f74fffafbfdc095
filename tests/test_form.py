"""The form of the package: the interface's names in their files, and such rules of the language as can be read off."""

import ast
import os
import re
import unittest

TOP = os.path.dirname(os.path.dirname(os.path.abspath(__file__)))
PACKAGE = os.path.join(TOP, "stufflists")

INTERFACE = {
    "errors": ("StuffError", "NoFraction", "NoPlace", "TooMany", "NoName", "NoPath", "NoStretch", "NoPart", "NoDepth",
               "NoCooked", "NoNear", "NoPrices", "NoMaking", "NoPaper", "Never", "NoClash", "NoKinds", "NoLimit",
               "NoWish", "TextError", "NoRow", "NoLine", "NoDeed", "HouseError", "NoWare", "Ring"),
    "fractions": ("fraction", "plus", "minus", "times", "over", "is_less", "is_fraction", "fraction_text"),
    "labels": ("is_name", "is_stretch", "Label", "retold"),
    "rowtexts": ("read_row",),
    "linetexts": ("lines_of", "read_lines"),
    "recipes": ("Recipe",),
    "listing": ("label_of", "making_of", "flat"),
    "makings": ("is_making", "mixed", "cost"),
    "papers": ("shown",),
    "grids": (),
    "leasts": ("least",),
    "spreads": ("share_of", "spread"),
    "clashes": ("clash",),
    "pairs": ("stuffs_of", "amounts", "one_making"),
    "harms": ("is_of", "harm"),
    "tells": ("fewest",),
    "house": ("House",),
    "desk": ("Desk",),
}

ARGUMENTS = {
    ("rowtexts", "read_row"): "text",
    ("linetexts", "lines_of"): "label",
    ("linetexts", "read_lines"): "text",
    ("listing", "label_of"): "recipe, tell=None, near=0, may=None",
    ("listing", "making_of"): "recipe",
    ("listing", "flat"): "recipe",
    ("makings", "is_making"): "label, thing",
    ("makings", "mixed"): "one, other, part",
    ("makings", "cost"): "label, prices, making",
    ("papers", "shown"): "label, prices, paper",
    ("leasts", "least"): "label, prices",
    ("spreads", "share_of"): "label, names, making",
    ("spreads", "spread"): "label, names",
    ("clashes", "clash"): "label",
    ("pairs", "stuffs_of"): "label",
    ("pairs", "amounts"): "label, making",
    ("pairs", "one_making"): "one, other",
    ("harms", "is_of"): "kinds, one, other",
    ("harms", "harm"): "label, names, kinds=None, limit=None",
    ("tells", "fewest"): "label, making, wish",
}

METHODS = {
    ("labels", "Label"): ("__init__", "places", "may", "paths", "name_at", "told_at", "many_in",
                          "__eq__", "__len__", "__str__", "__repr__"),
    ("recipes", "Recipe"): ("__init__", "parts", "cooked", "water", "whole", "left", "__eq__", "__len__"),
    ("house", "House"): ("__init__", "put", "drop", "recipe", "label", "uses", "wares", "__len__"),
    ("desk", "Desk"): ("__init__", "say"),
}

METHOD_ARGUMENTS = {
    ("recipes", "Recipe", "__init__"): "self, parts, cooked=None, water='water'",
    ("recipes", "Recipe", "left"): "self, name",
    ("house", "House", "__init__"): "self",
    ("house", "House", "put"): "self, name, parts, cooked=None, tell=None, near=0, may=None",
    ("house", "House", "drop"): "self, name",
    ("house", "House", "recipe"): "self, name",
    ("house", "House", "label"): "self, name",
    ("house", "House", "uses"): "self, name",
    ("house", "House", "wares"): "self",
    ("desk", "Desk", "__init__"): "self",
    ("desk", "Desk", "say"): "self, row",
}

BARRED_WORDS = ("type", "typing", "typing_extensions", "enum", "Enum", "IntEnum", "StrEnum", "Flag", "IntFlag",
                "Generic", "Protocol", "ABC", "ABCMeta", "namedtuple", "NamedTuple", "TypedDict", "TYPE_CHECKING",
                "abstractmethod")

BUILTINS = {"len", "range", "enumerate", "zip", "min", "max", "sum", "abs", "sorted", "reversed", "int", "str", "bool",
            "list", "tuple", "dict", "set", "isinstance", "ord", "repr", "any", "all", "divmod", "iter", "next",
            "super"}

METHODS_OF_VALUES = {"append", "clear", "copy", "count", "endswith", "extend", "find", "get", "index", "insert",
                     "isdigit", "items", "join", "keys", "pop", "remove", "replace", "reverse", "setdefault", "split",
                     "startswith", "strip", "update", "values", "zfill", "add", "discard", "partition", "lstrip",
                     "removeprefix", "removesuffix"}


def sources():
    for file in sorted(os.listdir(PACKAGE)):
        if file.endswith(".py"):
            with open(os.path.join(PACKAGE, file), encoding="utf-8") as told:
                yield file, told.read()


def trees():
    for file, text in sources():
        yield file, ast.parse(text)


def defined(body):
    return {row.name: row for row in body if isinstance(row, (ast.FunctionDef, ast.ClassDef))}


class Interface(unittest.TestCase):
    def test_each_name_is_defined_in_its_file(self):
        files = dict(trees())
        for file, names in INTERFACE.items():
            found = defined(files[file + ".py"].body)
            for name in names:
                self.assertIn(name, found, file)

    def test_each_method_is_defined_in_its_class(self):
        files = dict(trees())
        for (file, name), methods in METHODS.items():
            found = defined(defined(files[file + ".py"].body)[name].body)
            for method in methods:
                self.assertIn(method, found, name)

    def test_each_function_has_its_arguments(self):
        files = dict(trees())
        for (file, name), arguments in ARGUMENTS.items():
            self.assertEqual(ast.unparse(defined(files[file + ".py"].body)[name].args), arguments)
        for (file, name, method), arguments in METHOD_ARGUMENTS.items():
            made = defined(defined(files[file + ".py"].body)[name].body)
            self.assertEqual(ast.unparse(made[method].args), arguments)


class Files(unittest.TestCase):
    def test_nothing_but_plain_files(self):
        for file in os.listdir(PACKAGE):
            if file != "__pycache__":
                self.assertRegex(file, r"\A[a-z_][a-z0-9_]*\.py\Z")
        self.assertIn("__init__.py", os.listdir(PACKAGE))

    def test_signs_and_sizes(self):
        for file, text in sources():
            self.assertRegex(text, r"\A[ -~\n]*\Z", file)
            rows = text.split("\n")
            self.assertLessEqual(len(rows), 400, file)
            self.assertLessEqual(max(len(row) for row in rows), 120, file)

    def test_barred_words(self):
        for file, text in sources():
            words = set(re.findall(r"\w+", text))
            self.assertEqual(words & set(BARRED_WORDS), set(), file)
            self.assertIsNone(re.search("dataclass|overload|contextmanager", text), file)


class Rules(unittest.TestCase):
    def nodes(self, *kinds):
        for file, tree in trees():
            for node in ast.walk(tree):
                if isinstance(node, kinds):
                    yield file, node

    def test_functions_are_short(self):
        for file, node in self.nodes(ast.FunctionDef):
            self.assertLessEqual(node.end_lineno - node.lineno + 1, 40, (file, node.name))
            if node.name not in ("__init__", "__eq__", "__len__", "__str__", "__repr__"):
                self.assertFalse(node.name.startswith("_"), (file, node.name))

    def test_imports_are_of_the_package(self):
        for file, node in self.nodes(ast.Import, ast.ImportFrom):
            self.assertIsInstance(node, ast.ImportFrom, file)
            self.assertTrue(node.module.startswith("stufflists."), file)
            self.assertEqual(node.level, 0, file)

    def test_barred_statements_and_signs(self):
        for file, node in self.nodes(ast.Global, ast.AsyncFunctionDef, ast.Div, ast.FloorDiv, ast.Constant):
            self.assertNotIsInstance(node, (ast.Global, ast.AsyncFunctionDef, ast.Div), file)
            if isinstance(node, ast.Constant):
                self.assertNotIsInstance(node.value, (float, complex, bytes), file)
                if isinstance(node.value, str):
                    self.assertNotIn("%", node.value, file)

    def test_is_beside_none_true_and_false_alone(self):
        for file, node in self.nodes(ast.Compare):
            for sign, other in zip(node.ops, node.comparators):
                if isinstance(sign, (ast.Is, ast.IsNot)):
                    self.assertIsInstance(other, ast.Constant, file)

    def test_builtins(self):
        known = set(dir(__builtins__)) if not isinstance(__builtins__, dict) else set(__builtins__)
        barred = {name for name in known if not name.endswith("Error")} - BUILTINS
        for file, node in self.nodes(ast.Name):
            self.assertNotIn(node.id, barred, file)

    def test_methods_of_values(self):
        own = {"__init__"}
        for _, node in self.nodes(ast.FunctionDef):
            own.add(node.name)
        for file, node in self.nodes(ast.Call):
            if isinstance(node.func, ast.Attribute):
                self.assertIn(node.func.attr, METHODS_OF_VALUES | own, file)

    def test_each_import_names_the_file_that_defines_it(self):
        files = dict(trees())
        for file, node in self.nodes(ast.ImportFrom):
            body = files[node.module.removeprefix("stufflists.") + ".py"].body
            known = set(defined(body)) | {row.targets[0].id for row in body if isinstance(row, ast.Assign)}
            self.assertLessEqual({name.name for name in node.names}, known, file)
            self.assertEqual({name.asname for name in node.names}, {None}, file)

    def test_no_two_files_import_from_each_other(self):
        above = {}
        for file, node in self.nodes(ast.ImportFrom):
            above.setdefault(file, set()).add(node.module.removeprefix("stufflists.") + ".py")
        for file in above:
            found, new = set(), set(above[file])
            while new:
                found |= new
                new = set().union(*(above.get(other, set()) for other in new)) - found
            self.assertNotIn(file, found)

    def test_each_import_is_used(self):
        for file, tree in trees():
            used = {node.id for node in ast.walk(tree) if isinstance(node, ast.Name)}
            for node in ast.walk(tree):
                if isinstance(node, ast.ImportFrom):
                    self.assertLessEqual({name.name for name in node.names}, used, file)

    def test_no_local_name_is_that_of_a_class_or_an_import(self):
        for file, tree in trees():
            taken = {name.name for node in tree.body if isinstance(node, ast.ImportFrom) for name in node.names}
            taken |= {node.name for node in tree.body if isinstance(node, ast.ClassDef)}
            for node in ast.walk(tree):
                if isinstance(node, ast.Name) and isinstance(node.ctx, ast.Store):
                    self.assertNotIn(node.id, taken, file)
                    self.assertNotIn(node.id, BUILTINS, file)
                if isinstance(node, ast.arg):
                    self.assertNotIn(node.arg, taken, file)
                    self.assertNotIn(node.arg, BUILTINS, file)

    def test_no_generator_expressions(self):
        # Where a class has __eq__, most of what takes one takes a list alone.
        self.assertEqual(list(self.nodes(ast.GeneratorExp, ast.Yield, ast.YieldFrom)), [])

    def test_powers_are_literal(self):
        for file, node in self.nodes(ast.BinOp):
            if isinstance(node.op, ast.Pow):
                self.assertIsInstance(node.right, ast.Constant, file)
                self.assertLessEqual(node.right.value, 64, file)

    def test_no_name_is_a_method_and_an_attribute(self):
        methods, attributes = set(), set()
        for _, node in self.nodes(ast.ClassDef):
            methods |= set(defined(node.body))
        for _, node in self.nodes(ast.Attribute):
            if isinstance(node.ctx, ast.Store):
                attributes.add(node.attr)
        self.assertEqual(methods & attributes, set())


if __name__ == "__main__":
    unittest.main()
