"""The package keeps to the part of Python that it is written in, as far as a plain look can tell."""

import ast
import builtins
import pathlib
import re
import unittest

PACKAGE = pathlib.Path(__file__).resolve().parent.parent / "rillturn"
FILES = sorted(PACKAGE.glob("*.py"))
OWN_NAMES = set(
    "len range enumerate zip min max sum abs sorted reversed int str bool bytes list tuple dict set isinstance ord repr"
    " any all divmod Exception ValueError TypeError KeyError IndexError LookupError ZeroDivisionError ArithmeticError"
    " OverflowError RuntimeError NotImplementedError StopIteration".split()
)
FORBIDDEN_WORDS = set(
    "type typing typing_extensions enum Enum IntEnum StrEnum Flag IntFlag Generic Protocol ABC ABCMeta namedtuple"
    " NamedTuple TypedDict TYPE_CHECKING abstractmethod".split()
)
FORBIDDEN_NODES = (
    ast.GeneratorExp, ast.NamedExpr, ast.With, ast.Match, ast.Global, ast.Nonlocal, ast.Yield, ast.YieldFrom,
    ast.AsyncFunctionDef, ast.Await, ast.Div, ast.Import,
)
PYTHONS = set(dir(builtins))


def trees():
    return [(path, ast.parse(path.read_text("utf-8"))) for path in FILES]


def defs(tree):
    return [node for node in ast.walk(tree) if isinstance(node, ast.FunctionDef)]


class Language(unittest.TestCase):
    def test_the_files(self):
        names = [path.name for path in PACKAGE.iterdir() if path.name != "__pycache__"]
        self.assertEqual(sorted(names), [path.name for path in FILES])
        wanted = "__init__ errors webs pointings heights hues fewest turning springs kin seats worths roundhues"
        for name in wanted.split():
            self.assertIn(name + ".py", names)

    def test_sizes_and_signs(self):
        for path in FILES:
            text = path.read_text("utf-8")
            rows = text.split("\n")
            self.assertLessEqual(len(rows), 400, path)
            self.assertTrue(all(len(row) <= 120 for row in rows), path)
            self.assertTrue(all(sign == "\n" or " " <= sign <= "~" for sign in text), path)
            self.assertEqual(set(re.findall(r"\w+", text)) & FORBIDDEN_WORDS, set(), path)
        for path, tree in trees():
            for node in defs(tree):
                self.assertLessEqual(node.end_lineno - node.lineno + 1, 40, (path, node.name))

    def test_no_forbidden_form(self):
        for path, tree in trees():
            for node in ast.walk(tree):
                self.assertNotIsInstance(node, FORBIDDEN_NODES, (path, getattr(node, "lineno", None)))
                if isinstance(node, ast.Constant):
                    self.assertNotIsInstance(node.value, (float, complex), path)
                if isinstance(node, ast.Starred):
                    self.assertIsInstance(node.ctx, ast.Store, path)
                if isinstance(node, ast.Compare) and isinstance(node.ops[0], (ast.Is, ast.IsNot)):
                    beside = getattr(node.comparators[0], "value", "")
                    self.assertTrue(beside is None or isinstance(beside, bool), (path, node.lineno))
                if isinstance(node, (ast.FunctionDef, ast.ClassDef)):
                    self.assertEqual(node.decorator_list, [], (path, node.name))

    def test_imports_are_of_the_package_by_full_names(self):
        for path, tree in trees():
            for node in ast.walk(tree):
                if isinstance(node, ast.ImportFrom):
                    self.assertEqual(node.level, 0, path)
                    self.assertTrue(node.module.startswith("rillturn."), path)
                    self.assertTrue((PACKAGE / (node.module.split(".")[1] + ".py")).exists(), path)

    def test_names_are_plain(self):
        for path, tree in trees():
            bound = [node.id for node in ast.walk(tree) if isinstance(node, ast.Name) and isinstance(node.ctx, ast.Store)]
            bound += [node.arg for node in ast.walk(tree) if isinstance(node, ast.arg)]
            bound += [node.name for node in defs(tree)]
            for name in bound:
                self.assertFalse(name.startswith("_") or name in PYTHONS, (path, name))
            for node in ast.walk(tree):
                if isinstance(node, ast.Name) and node.id in PYTHONS:
                    self.assertIn(node.id, OWN_NAMES, (path, node.lineno))

    def test_no_parameter_or_local_is_called_like_an_import_or_a_class(self):
        for path, tree in trees():
            tops = {each.name for node in ast.walk(tree) if isinstance(node, ast.ImportFrom) for each in node.names}
            tops |= {node.name for node in tree.body if isinstance(node, ast.ClassDef)}
            for node in defs(tree):
                inner = {each.arg for each in ast.walk(node) if isinstance(each, ast.arg)}
                inner |= {
                    each.id for each in ast.walk(node) if isinstance(each, ast.Name) and isinstance(each.ctx, ast.Store)
                }
                self.assertEqual(inner & tops, set(), (path, node.name))


if __name__ == "__main__":
    unittest.main()
