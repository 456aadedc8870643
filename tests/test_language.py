"""The package keeps to the part of Python that it is written in, as far as a plain look can tell."""

import ast
import builtins
import io
import pathlib
import re
import tokenize
import unittest

PACKAGE = pathlib.Path(__file__).resolve().parent.parent / "rillturn"
FILES = sorted(PACKAGE.glob("*.py"))
WANTED_FILES = (
    "__init__ errors webs pointings heights hues fewest turning springs kin seats worths roundhues counts poles texts desk"
).split()
OWN_NAMES = set(
    "len range enumerate zip min max sum abs sorted reversed int str bool bytes list tuple dict set isinstance ord repr"
    " any all divmod Exception ValueError TypeError KeyError IndexError LookupError ZeroDivisionError ArithmeticError"
    " OverflowError RuntimeError NotImplementedError StopIteration".split()
)
FORBIDDEN_WORDS = set(
    "type typing typing_extensions enum Enum IntEnum StrEnum Flag IntFlag Generic Protocol ABC ABCMeta namedtuple"
    " NamedTuple TypedDict TYPE_CHECKING abstractmethod".split()
)
UNUSED_NAMES = set(
    "register mro elements open input version_info with_traceback add_note attrgetter breakpoint builtins compile copyright"
    " credits delattr dir eval exec exit gc getattr globals hasattr help id importlib license locals methodcaller os quit"
    " setattr super vars sys".split()
)
# What the package is made of; other forms may be allowed, but are not used.
NODES = (
    ast.Module, ast.Expr, ast.Constant, ast.ImportFrom, ast.alias, ast.FunctionDef, ast.arguments, ast.arg, ast.ClassDef,
    ast.Assign, ast.AugAssign, ast.If, ast.While, ast.For, ast.Return, ast.Pass, ast.Raise, ast.Name, ast.Load, ast.Store,
    ast.Attribute, ast.Subscript, ast.Slice, ast.Starred, ast.Call, ast.keyword, ast.Lambda, ast.List, ast.Tuple, ast.Dict,
    ast.ListComp, ast.SetComp, ast.DictComp, ast.comprehension, ast.BinOp, ast.UnaryOp, ast.BoolOp, ast.Compare, ast.IfExp,
    ast.JoinedStr, ast.FormattedValue, ast.Add, ast.Sub, ast.Mult, ast.FloorDiv, ast.Mod, ast.USub, ast.Not, ast.And,
    ast.Or, ast.BitAnd, ast.Eq, ast.NotEq, ast.Lt, ast.LtE, ast.Gt, ast.GtE, ast.In, ast.NotIn, ast.Is, ast.IsNot,
)
METHODS = set(
    "append clear copy count endswith extend find get index insert items join keys pop remove replace reverse split"
    " startswith strip values".split()
)
CHANGES = {"append", "clear", "extend", "insert", "pop", "remove", "reverse"}
KEYWORDS = {"sorted": {"key", "reverse"}, "min": {"key", "default"}, "max": {"key", "default"}, "sum": {"start"}}
WALKED = {"zip", "enumerate", "reversed", "range"}
WALKERS = {"list", "tuple", "dict", "sorted", "sum", "any", "all", "enumerate", "zip"}
PYTHONS = set(dir(builtins))


def trees():
    return [(path, ast.parse(path.read_text("utf-8"))) for path in FILES]


def defs(tree):
    return [node for node in ast.walk(tree) if isinstance(node, ast.FunctionDef)]


def parents(tree):
    return {child: node for node in ast.walk(tree) for child in ast.iter_child_nodes(node)}


def called(node):
    """The name that a call calls, None where it is no plain name."""
    return node.func.id if isinstance(node, ast.Call) and isinstance(node.func, ast.Name) else None


def tops(tree):
    """The names that a file's top binds, each as often as it does."""
    names = []
    for node in tree.body:
        if isinstance(node, ast.ImportFrom):
            names.extend(each.name for each in node.names)
        elif isinstance(node, (ast.FunctionDef, ast.ClassDef)):
            names.append(node.name)
        elif isinstance(node, ast.Assign):
            names.extend(target.id for target in node.targets)
    return names


class Language(unittest.TestCase):
    def test_the_files(self):
        names = [path.name for path in PACKAGE.iterdir() if path.name != "__pycache__"]
        self.assertEqual(sorted(names), [path.name for path in FILES])
        for name in WANTED_FILES:
            self.assertIn(name + ".py", names)

    def test_sizes_and_signs(self):
        for path in FILES:
            text = path.read_text("utf-8")
            rows = text.split("\n")
            self.assertLessEqual(len(rows), 400, path)
            self.assertTrue(all(len(row) <= 120 for row in rows), path)
            self.assertTrue(all(sign == "\n" or " " <= sign <= "~" for sign in text), path)
            self.assertEqual(set(re.findall(r"\w+", text)) & FORBIDDEN_WORDS, set(), path)
            self.assertIsNone(re.search("dataclass|overload|contextmanager", text), path)
        for path, tree in trees():
            for node in defs(tree):
                self.assertLessEqual(node.end_lineno - node.lineno + 1, 40, (path, node.name))

    def test_forms(self):
        for path, tree in trees():
            for node in ast.walk(tree):
                at = (path, getattr(node, "lineno", None))
                self.assertIsInstance(node, NODES, at)
                if isinstance(node, ast.Constant):
                    self.assertNotIsInstance(node.value, (float, complex, bytes), at)
                if isinstance(node, ast.Starred):
                    self.assertIsInstance(node.ctx, ast.Store, at)
                if isinstance(node, ast.Compare) and isinstance(node.ops[0], (ast.Is, ast.IsNot)):
                    beside = getattr(node.comparators[0], "value", "")
                    self.assertTrue(beside is None or isinstance(beside, bool), at)
                if isinstance(node, (ast.FunctionDef, ast.ClassDef)):
                    self.assertEqual(node.decorator_list, [], at)
                if isinstance(node, (ast.For, ast.While)):
                    self.assertEqual(node.orelse, [], at)
                if isinstance(node, ast.FormattedValue):
                    self.assertIsNone(node.format_spec, at)
                    inner = [each for each in ast.walk(node.value) if isinstance(each, (ast.Constant, ast.JoinedStr))]
                    self.assertFalse(any(isinstance(getattr(each, "value", ""), str) for each in inner), at)
                if isinstance(node, ast.Raise):
                    self.assertIsInstance(node.exc, ast.Call, at)
                    self.assertIsInstance(node.exc.func, ast.Name, at)

    def test_the_tops_of_files(self):
        for path, tree in trees():
            self.assertEqual(len(set(tops(tree))), len(tops(tree)), path)
            for node in tree.body:
                kinds = (ast.Expr, ast.ImportFrom, ast.FunctionDef, ast.ClassDef, ast.Assign)
                self.assertIsInstance(node, kinds, (path, node.lineno))
                if isinstance(node, ast.Assign):
                    inner = [each for each in ast.walk(node.value) if each is not node.value]
                    self.assertFalse(any(isinstance(each, (ast.List, ast.Dict, ast.Set, ast.Call)) for each in inner))
                if isinstance(node, ast.ClassDef):
                    self.assertTrue(all(isinstance(each, (ast.Expr, ast.FunctionDef)) for each in node.body), path)

    def test_tops_are_only_read(self):
        for path, tree in trees():
            kept = {
                node.targets[0].id for node in tree.body
                if isinstance(node, ast.Assign) and isinstance(node.value, (ast.Dict, ast.List))
            }
            above = parents(tree)
            for node in ast.walk(tree):
                if isinstance(node, ast.Name) and node.id in kept and isinstance(node.ctx, ast.Load):
                    over = above[node]
                    asked = isinstance(over, ast.Subscript) and isinstance(over.ctx, ast.Load)
                    asked = asked or isinstance(over, ast.Compare)
                    asked = asked or (isinstance(over, ast.Attribute) and over.attr == "get")
                    self.assertTrue(asked, (path, node.lineno))

    def test_imports_are_of_the_package_by_full_names(self):
        drawn = {}
        found = dict(trees())
        for path, tree in found.items():
            drawn[path] = []
            for node in ast.walk(tree):
                if isinstance(node, ast.ImportFrom):
                    self.assertEqual(node.level, 0, path)
                    self.assertEqual(node.module.split(".")[0], "rillturn", path)
                    other = PACKAGE / (node.module.split(".")[1] + ".py")
                    self.assertIn(other, found, path)
                    drawn[path].append(other)
                    made = [
                        each.id if isinstance(each, ast.Name) else each.name for part in found[other].body
                        for each in ([part] if hasattr(part, "name") else getattr(part, "targets", []))
                    ]
                    for each in node.names:
                        self.assertIsNone(each.asname, path)
                        self.assertIn(each.name, made, (path, node.lineno))
        while drawn:
            free = [path for path, others in drawn.items() if not any(other in drawn for other in others)]
            self.assertTrue(free, "files draw from one another")
            drawn = {path: others for path, others in drawn.items() if path not in free}

    def test_names_are_plain(self):
        for path, tree in trees():
            bound = [node.id for node in ast.walk(tree) if isinstance(node, ast.Name) and isinstance(node.ctx, ast.Store)]
            bound += [node.arg for node in ast.walk(tree) if isinstance(node, ast.arg)]
            bound += [node.name for node in defs(tree) if node.name != "__init__"]
            for name in bound:
                self.assertFalse(name.startswith("_") or name in PYTHONS or name in UNUSED_NAMES, (path, name))
            for node in ast.walk(tree):
                if isinstance(node, ast.Name) and node.id in PYTHONS:
                    self.assertIn(node.id, OWN_NAMES, (path, node.lineno))

    def test_no_parameter_or_local_is_called_like_an_import_or_a_class(self):
        for path, tree in trees():
            taken = {each.name for node in ast.walk(tree) if isinstance(node, ast.ImportFrom) for each in node.names}
            taken |= {node.name for node in tree.body if isinstance(node, ast.ClassDef)}
            for node in defs(tree):
                inner = {each.arg for each in ast.walk(node) if isinstance(each, ast.arg)}
                inner |= {
                    each.id for each in ast.walk(node) if isinstance(each, ast.Name) and isinstance(each.ctx, ast.Store)
                }
                self.assertEqual(inner & taken, set(), (path, node.name))

    def test_calls_of_pythons_own(self):
        for path, tree in trees():
            above = parents(tree)
            own = {node.name for each in ast.walk(tree) if isinstance(each, ast.ClassDef) for node in each.body
                   if isinstance(node, ast.FunctionDef)}
            for node in ast.walk(tree):
                at = (path, getattr(node, "lineno", None))
                if isinstance(node, ast.Call) and isinstance(node.func, ast.Attribute):
                    self.assertIn(node.func.attr, METHODS | own, at)
                    self.assertEqual(node.keywords, [], at)
                name = called(node)
                if name in PYTHONS:
                    self.assertTrue({each.arg for each in node.keywords} <= KEYWORDS.get(name, set()), at)
                if isinstance(node, ast.Name) and node.id in OWN_NAMES and isinstance(node.ctx, ast.Load):
                    over = above[node]
                    is_called = isinstance(over, ast.Call) and over.func is node
                    is_kind = called(over) == "isinstance" or called(above.get(over)) == "isinstance"
                    is_base = isinstance(over, ast.ClassDef)
                    self.assertTrue(is_called or is_kind or is_base, at)

    def test_walked_at_once(self):
        for path, tree in trees():
            above = parents(tree)
            for node in ast.walk(tree):
                kept = isinstance(node, ast.Call) and getattr(node.func, "attr", "") in ("items", "keys", "values")
                if called(node) in WALKED or kept:
                    over = above[node]
                    walked = isinstance(over, (ast.For, ast.comprehension)) and over.iter is node
                    inside = called(over) in WALKERS and over.args[0] is node
                    alone = called(over) in ("min", "max", "reversed") and len(over.args) == 1
                    self.assertTrue(walked or inside or alone, (path, node.lineno))
                if isinstance(node, ast.For):
                    names = {each.id for each in ast.walk(node.iter) if isinstance(each, ast.Name)}
                    for each in [each for row in node.body for each in ast.walk(row)]:
                        if isinstance(each, ast.Call) and getattr(each.func, "attr", "") in CHANGES:
                            self.assertFalse(getattr(each.func.value, "id", "") in names, (path, each.lineno))

    def test_sets_are_asked_at_once(self):
        for path, tree in trees():
            above = parents(tree)
            for node in ast.walk(tree):
                if called(node) == "set" or isinstance(node, ast.SetComp):
                    over = above[node]
                    while isinstance(over, ast.BinOp):
                        over = above[over]
                    asked = called(over) in ("sorted", "len") or isinstance(over, ast.Compare)
                    self.assertTrue(asked, (path, node.lineno))

    def test_values_and_methods(self):
        values, methods = set(), set()
        for path, tree in trees():
            for node in ast.walk(tree):
                if isinstance(node, ast.ClassDef):
                    methods |= {each.name for each in node.body if isinstance(each, ast.FunctionDef)}
                if isinstance(node, ast.Attribute) and isinstance(node.ctx, ast.Store):
                    self.assertEqual(node.value.id, "self", (path, node.lineno))
                    values.add(node.attr)
        self.assertEqual(values & methods, set())
        taken = {name for kind in (str, int, list, dict, set, bytes, tuple) for name in dir(kind)}
        self.assertEqual((values | methods) & taken, {"__init__"})

    def test_texts(self):
        for path in FILES:
            for token in tokenize.generate_tokens(io.StringIO(path.read_text("utf-8")).readline):
                if token.type == tokenize.STRING or "FSTRING" in tokenize.tok_name[token.type]:
                    self.assertNotIn("%", token.string, (path, token.start))
                    self.assertIsNone(re.search(r"\\[^nt\\'\"]", token.string), (path, token.start))

    def test_every_file_class_and_def_says_what_it_is(self):
        for path, tree in trees():
            for node in [tree] + defs(tree) + [each for each in tree.body if isinstance(each, ast.ClassDef)]:
                if getattr(node, "name", "") != "__init__":
                    self.assertTrue(ast.get_docstring(node), (path, getattr(node, "name", "")))


if __name__ == "__main__":
    unittest.main()
