"""The files of the package: sizes, characters, imports and names as ../shared/LANGUAGE.md tells them (a part of it)."""

import ast
import builtins
import importlib
import pathlib
import unittest

PACKAGE = pathlib.Path(__file__).resolve().parent.parent / "unwritparts"
FILES = sorted(path for path in PACKAGE.rglob("*") if "__pycache__" not in path.parts)
METHODS = ("__init__", "__eq__", "__repr__", "__str__", "__len__")
BUILTINS = (
    "len range enumerate zip min max sum abs sorted reversed int str bool bytes list tuple dict set isinstance ord "
    "repr any all divmod Exception ValueError TypeError KeyError IndexError LookupError ArithmeticError OverflowError "
    "RuntimeError NotImplementedError"
).split()

# The interface: where each name is defined, with its arguments.
INTERFACE = {
    "errors": {
        "NoTerm": None, "TooMuch": None, "NoName": None, "Loose": None, "Written": None, "NoPart": None, "Full": None,
        "Bare": None, "NoLack": None, "NoPaper": None, "NoParcel": None, "NoRow": None,
    },
    "terms": {
        "Term": {
            "__init__": ["self", "text"], "form": ["self"], "inner": ["self"], "bound": ["self"],
            "free_names": ["self"], "part_names": ["self"], "__eq__": None, "__len__": None, "__str__": None,
            "__repr__": None,
        },
        "is_part_name": ["thing"],
    },
    "walks": {"Walk": {"__init__": ["self", "needs", "steps", "made", "end"]},
              "walked": ["knot", "term", "names", "gots"]},
    "tellings": {
        "Telling": {
            "__init__": ["self", "kind", "what", "steps", "*", "known=()"], "is_sure": ["self"], "__eq__": None,
            "__len__": None, "__str__": None, "__repr__": None,
        },
    },
    "plain": {"plain": ["parts", "term", "*", "most=MOST"]},
    "houses": {
        "House": {
            "__init__": ["self", "parts=()"], "write": ["self", "name", "term", "*", "new=False"],
            "strike": ["self", "name"], "back": ["self"], "past": ["self"], "parts": ["self"],
            "term_of": ["self", "name"], "tell": ["self", "term", "*", "most=MOST"], "done": ["self"],
            "twin": ["self"], "__eq__": None, "__len__": None, "__str__": None, "__repr__": None,
        },
    },
    "lacks": {"lack": ["house", "term", "*", "most=MOST"], "wanted": ["house", "terms", "*", "most=MOST"]},
    "papers": {"paper_of": ["parts", "term", "*", "most=MOST"]},
    "looker": {"holds": ["parts", "term", "thing"]},
    "parcels": {"parcel_of": ["house"], "house_of": ["thing"]},
    "desk": {"Desk": {"__init__": ["self"], "say": ["self", "row"]}},
}


def trees():
    return [(path, ast.parse(path.read_text())) for path in FILES]


def arguments(function):
    """The arguments as they are written: names, a * ahead of those that go by name alone, defaults behind a =."""
    taken = function.args
    defaults = [None] * (len(taken.args) - len(taken.defaults)) + taken.defaults
    rows = list(zip(taken.args, defaults))
    by_name = list(zip(taken.kwonlyargs, taken.kw_defaults))
    told = [[name.arg + ("=" + ast.unparse(default) if default else "") for name, default in part]
            for part in (rows, by_name)]
    return told[0] + (["*"] + told[1] if told[1] else [])


class LanguageTest(unittest.TestCase):
    def test_files(self):
        self.assertIn("__init__.py", [path.name for path in FILES])
        for path in FILES:
            self.assertEqual(path.suffix, ".py", path)
            text = path.read_bytes()
            self.assertTrue(all(32 <= sign <= 126 or sign == 10 for sign in text), path)
            rows = text.decode().splitlines()
            self.assertLessEqual(len(rows), 399, path)
            self.assertLessEqual(max(map(len, rows)), 120, path)

    def test_functions_have_at_most_forty_lines(self):
        for path, tree in trees():
            for node in ast.walk(tree):
                if isinstance(node, ast.FunctionDef):
                    self.assertLessEqual(node.end_lineno - node.lineno + 1, 40, (path, node.name))
                    self.assertEqual(node.decorator_list, [], (path, node.name))

    def test_imports_are_of_the_package_by_full_names(self):
        for path, tree in trees():
            for node in ast.walk(tree):
                self.assertNotIsInstance(node, ast.Import, path)
                if isinstance(node, ast.ImportFrom):
                    self.assertEqual((node.level, node.module.split(".")[0]), (0, "unwritparts"), path)
                    home = importlib.import_module(node.module)
                    for name in node.names:
                        self.assertIsNone(name.asname)
                        thing = getattr(home, name.name)
                        self.assertEqual(getattr(thing, "__module__", node.module), node.module)

    def test_names(self):
        for path, tree in trees():
            for node in ast.walk(tree):
                if isinstance(node, ast.FunctionDef) and node.name.startswith("__"):
                    self.assertIn(node.name, METHODS, path)
                if isinstance(node, ast.Name) and node.id in dir(builtins):
                    self.assertIn(node.id, BUILTINS, path)
                    self.assertIsInstance(node.ctx, ast.Load, path)
                if isinstance(node, ast.arg):
                    self.assertNotIn(node.arg, dir(builtins), path)
                self.assertNotIsInstance(node, (ast.Global, ast.AsyncFunctionDef, ast.Div), path)
                if isinstance(node, ast.Constant):
                    self.assertNotIsInstance(node.value, (float, complex), path)
                    self.assertNotIn("%", str(node.value), path)

    def test_expressions(self):
        for path, tree in trees():
            for node in ast.walk(tree):
                self.assertNotIsInstance(node, (ast.GeneratorExp, ast.Set, ast.SetComp, ast.Yield, ast.Nonlocal), path)
                if isinstance(node, ast.Compare):
                    for deed, right in zip(node.ops, node.comparators):
                        if isinstance(deed, (ast.Is, ast.IsNot)):
                            self.assertIn(getattr(right, "value", 0), (None, True, False), path)
                if isinstance(node, ast.ExceptHandler):
                    names = node.type.elts if isinstance(node.type, ast.Tuple) else [node.type]
                    for name in names:
                        self.assertIn(name.id, INTERFACE["errors"], path)
                if isinstance(node, ast.Raise):
                    self.assertIsInstance(node.exc, ast.Call, path)

    def test_names_of_methods_are_no_attributes(self):
        methods, attributes = [], []
        for path, tree in trees():
            for node in ast.walk(tree):
                if isinstance(node, ast.ClassDef):
                    methods += [inner.name for inner in node.body if isinstance(inner, ast.FunctionDef)]
                if isinstance(node, ast.Attribute) and isinstance(node.ctx, ast.Store):
                    attributes.append(node.attr)
        self.assertEqual(sorted(set(methods) & set(attributes)), [])

    def test_the_interface_stands_where_it_is_listed(self):
        for file, names in INTERFACE.items():
            body = {node.name: node for node in ast.parse((PACKAGE / (file + ".py")).read_text()).body
                    if isinstance(node, (ast.FunctionDef, ast.ClassDef))}
            for name, told in names.items():
                with self.subTest(file=file, name=name):
                    self.assertIn(name, body)
                    if isinstance(told, list):
                        self.assertEqual(arguments(body[name]), told)
                    if isinstance(told, dict):
                        methods = {node.name: node for node in body[name].body if isinstance(node, ast.FunctionDef)}
                        for method, taken in told.items():
                            self.assertIn(method, methods)
                            if taken is not None:
                                self.assertEqual(arguments(methods[method]), taken)


if __name__ == "__main__":
    unittest.main()
