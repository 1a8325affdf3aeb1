"""The package's own form: the interface as it stands, and no way to a clock, to chance or to files."""

import ast
import builtins
import importlib
import inspect
import pathlib
import unittest

PACKAGE = pathlib.Path(__file__).resolve().parent.parent / "ringdeal"

INTERFACE = {
    "ring": {
        "place_of": ["size", "name"],
        "posts_of": ["size", "keeper", "share"],
        "steps": ["size", "one", "other"],
        "way_to": ["size", "name", "keeper", "share"],
        "pairs_of": ["size", "keepers", "names"],
        "room_of": ["each", "share"],
    },
    "dealing": {
        "deal_of": ["plan", "keepers", "names"],
        "names_of": ["rows", "keeper"],
        "moves": ["before", "after"],
    },
    "judging": {"is_deal": ["plan", "keepers", "names", "rows"]},
    "story": {"answers": ["plan", "deeds"], "ring_after": ["plan", "deeds"]},
    "lines": {"shown": ["rows"], "read": ["lines"]},
}

BUILT_IN = """
    len range enumerate zip min max sum abs sorted reversed int str bool list tuple dict set frozenset
    isinstance ord repr any all divmod Exception ValueError KeyError IndexError LookupError
    ZeroDivisionError ArithmeticError OverflowError RuntimeError NotImplementedError StopIteration
""".split()

METHODS = """
    append clear copy count endswith extend find get index insert isalnum isalpha isdigit islower isspace isupper
    items join keys ljust lower lstrip partition pop remove replace reverse rfind rjust rpartition rsplit rstrip
    setdefault split splitlines startswith strip update upper values zfill bit_length
""".split()

UNUSED = (
    ast.AsyncFunctionDef, ast.Assert, ast.AugAssign, ast.Await, ast.Delete, ast.DictComp, ast.GeneratorExp,
    ast.Global, ast.Match, ast.NamedExpr, ast.Nonlocal, ast.SetComp, ast.Starred, ast.With, ast.Yield, ast.YieldFrom,
)


def sources():
    return [(path, path.read_text(encoding="utf-8")) for path in sorted(PACKAGE.glob("*.py"))]


def trees():
    return [(path.name, ast.parse(text)) for path, text in sources()]


class InterfaceTest(unittest.TestCase):
    def test_names_and_arguments(self):
        for module, functions in INTERFACE.items():
            held = importlib.import_module(f"ringdeal.{module}")
            for name, arguments in functions.items():
                with self.subTest(module=module, name=name):
                    self.assertEqual(list(inspect.signature(getattr(held, name)).parameters), arguments)


class SourceTest(unittest.TestCase):
    def test_only_own_modules_are_imported(self):
        for name, tree in trees():
            for node in ast.walk(tree):
                with self.subTest(name):
                    self.assertNotIsInstance(node, ast.Import)
                    if isinstance(node, ast.ImportFrom):
                        self.assertEqual(node.level, 0)
                        self.assertTrue(node.module.startswith("ringdeal."), node.module)

    def test_only_plain_built_in_names(self):
        for name, tree in trees():
            for node in ast.walk(tree):
                if isinstance(node, ast.Name) and hasattr(builtins, node.id):
                    with self.subTest(name, built_in=node.id):
                        self.assertIn(node.id, BUILT_IN)

    def test_no_float_and_no_division(self):
        for name, tree in trees():
            for node in ast.walk(tree):
                with self.subTest(name):
                    self.assertNotIsInstance(node, ast.Div)
                    if isinstance(node, ast.Constant):
                        self.assertNotIsInstance(node.value, (float, complex, bytes))

    def test_only_plain_forms_and_methods(self):
        own = [node.name for _, tree in trees() for node in ast.walk(tree) if isinstance(node, ast.FunctionDef)]
        for name, tree in trees():
            for node in ast.walk(tree):
                with self.subTest(name):
                    self.assertNotIsInstance(node, UNUSED)
                    if isinstance(node, ast.Call) and isinstance(node.func, ast.Attribute):
                        self.assertIn(node.func.attr, METHODS + own)

    def test_size_and_signs(self):
        for path, text in sources():
            with self.subTest(path.name):
                rows = text.split("\n")
                self.assertLessEqual(len(rows), 400)
                self.assertLessEqual(max(len(row) for row in rows), 120)
                self.assertTrue(all(sign == "\n" or " " <= sign <= "~" for sign in text))
                for node in ast.walk(ast.parse(text)):
                    if isinstance(node, ast.FunctionDef):
                        self.assertLessEqual(node.end_lineno - node.lineno + 1, 40)

    def test_nothing_but_source_lies_in_the_package(self):
        others = [path.name for path in PACKAGE.iterdir() if path.suffix != ".py" and path.name != "__pycache__"]
        self.assertEqual(others, [])


if __name__ == "__main__":
    unittest.main()
