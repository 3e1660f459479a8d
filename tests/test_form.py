"""The package keeps to its small part of Python, as far as a walk through its files can see."""

import ast
import builtins
import pathlib
import unittest

PACKAGE = pathlib.Path(__file__).resolve().parent.parent / "sharedout"

OWN_NAMES = """len range enumerate zip min max sum abs sorted reversed int str bool list tuple dict set frozenset
isinstance ord repr any all divmod Exception ValueError TypeError KeyError IndexError LookupError
ZeroDivisionError ArithmeticError OverflowError RuntimeError NotImplementedError StopIteration""".split()

OWN_METHODS = """append clear copy count endswith extend find get index insert isalnum isalpha isdigit islower
isspace isupper items join keys ljust lower lstrip partition pop remove replace reverse rfind rjust rpartition
rsplit rstrip setdefault split splitlines startswith strip update upper values zfill bit_length""".split()

LEFT_OUT = (
    ast.With, ast.Match, ast.Delete, ast.Global, ast.Nonlocal, ast.Assert, ast.Yield, ast.YieldFrom, ast.Await,
    ast.AsyncFunctionDef, ast.AsyncFor, ast.AsyncWith, ast.Div, ast.SetComp, ast.DictComp, ast.GeneratorExp,
    ast.NamedExpr, ast.Starred, ast.Import, ast.AnnAssign,
)


def sources():
    return sorted(PACKAGE.rglob("*.py"))


def walked():
    for path in sources():
        for node in ast.walk(ast.parse(path.read_text(encoding="ascii"))):
            yield path.name, node


class Form(unittest.TestCase):
    def test_files(self):
        names = [path.name for path in PACKAGE.iterdir() if path.name != "__pycache__"]
        self.assertIn("__init__.py", names)
        self.assertIn("bases.py", names)
        for name in names:
            self.assertRegex(name, r"^[a-z0-9_]+\.py$")

    def test_size_and_signs(self):
        for path in sources():
            text = path.read_bytes().decode("ascii")
            rows = text.split("\n")
            self.assertLessEqual(len(rows), 400)
            self.assertLessEqual(max(map(len, rows)), 120)
            self.assertTrue(all(sign == "\n" or " " <= sign <= "~" for sign in text))
        for name, node in walked():
            if isinstance(node, ast.FunctionDef):
                self.assertLessEqual(node.end_lineno - node.lineno + 1, 40, f"{name}: {node.name}")

    def test_statements_and_expressions(self):
        for name, node in walked():
            self.assertNotIsInstance(node, LEFT_OUT, f"{name}, line {getattr(node, 'lineno', 0)}")
            if isinstance(node, (ast.For, ast.While)):
                self.assertEqual(node.orelse, [])
            if isinstance(node, ast.ImportFrom):
                self.assertEqual(node.level, 0)
                self.assertTrue(node.module.startswith("sharedout."))
            if isinstance(node, ast.Constant):
                self.assertIn(type(node.value), (int, str, bool, type(None)))

    def test_imports_come_from_the_file_that_defines_them(self):
        trees = {f"sharedout.{path.stem}": ast.parse(path.read_text(encoding="ascii")) for path in sources()}
        drawn = {module: [row for row in tree.body if isinstance(row, ast.ImportFrom)]
                 for module, tree in trees.items()}
        for module, rows in drawn.items():
            bound = {node.arg for node in ast.walk(trees[module]) if isinstance(node, ast.arg)}
            bound |= {node.id for node in ast.walk(trees[module]) if isinstance(node, ast.Name)
                      and isinstance(node.ctx, ast.Store)}
            for row in rows:
                self.assertEqual(drawn[row.module], [], f"{module}: {row.module} draws from others itself")
                defined = {node.name for node in trees[row.module].body if isinstance(node, ast.FunctionDef)}
                for alias in row.names:
                    self.assertIn(alias.name, defined)
                    self.assertIsNone(alias.asname)
                    self.assertNotIn(alias.name, bound, f"{module}: bound twice")

    def test_names(self):
        defined = {node.name for name, node in walked() if isinstance(node, ast.FunctionDef)}
        stored = {node.attr for name, node in walked() if isinstance(node, ast.Attribute)
                  and isinstance(node.ctx, ast.Store)}
        for name, node in walked():
            if isinstance(node, ast.Name):
                self.assertFalse(node.id.startswith("_"))
                if hasattr(builtins, node.id):
                    self.assertIn(node.id, OWN_NAMES)
                    self.assertIsInstance(node.ctx, ast.Load)
            if isinstance(node, ast.arg):
                self.assertFalse(hasattr(builtins, node.arg))
            if isinstance(node, ast.Attribute):
                self.assertIn(node.attr, list(defined | stored) + OWN_METHODS)


if __name__ == "__main__":
    unittest.main()
