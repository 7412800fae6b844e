"""The package's files against those rules of its language that can be seen in the tree of a file."""

import ast
import builtins
import pathlib
import re
import unittest

PACKAGE = pathlib.Path(__file__).resolve().parent.parent / "orderlines"
FILES = sorted(PACKAGE.rglob("*.py"))

STATEMENTS = (
    ast.Assign, ast.AugAssign, ast.If, ast.While, ast.For, ast.Return, ast.Break, ast.Continue, ast.Pass, ast.Raise,
    ast.Try, ast.Expr, ast.FunctionDef, ast.ClassDef, ast.ImportFrom,
)
OUTSIDE = (
    ast.Lambda, ast.GeneratorExp, ast.SetComp, ast.DictComp, ast.NamedExpr, ast.Starred, ast.Set, ast.Div,
    ast.Await, ast.Yield, ast.YieldFrom, ast.AnnAssign,
)
OWN_NAMES = set("""
    len range enumerate zip min max sum abs sorted reversed int str bool list tuple dict set frozenset isinstance ord
    repr any all divmod Exception ValueError TypeError KeyError IndexError LookupError ZeroDivisionError
    ArithmeticError OverflowError RuntimeError NotImplementedError AttributeError StopIteration
""".split())
METHODS = set("""
    append clear copy count endswith extend find get index insert isalnum isalpha isdigit islower isspace isupper
    items join keys ljust lower lstrip partition pop remove replace reverse rfind rjust rpartition rsplit rstrip
    setdefault split splitlines startswith strip update upper values zfill bit_length
""".split())
WORDS_NOWHERE = re.compile(
    r"\b(type|typing|typing_extensions|enum|Enum|IntEnum|StrEnum|Flag|IntFlag|Generic|Protocol|ABC|ABCMeta|namedtuple"
    r"|NamedTuple|TypedDict|TYPE_CHECKING|abstractmethod|register|mro|elements|open|input|eval|exec|getattr|setattr)\b"
    r"|dataclass|overload|contextmanager")
PYTHONS = {name for kind in (str, int, list, dict, set, bytes, tuple) for name in vars(kind)}
PLAIN_NAME = re.compile(r"[A-Za-z][A-Za-z0-9_]*\Z")


def nodes(kinds):
    for path in FILES:
        for node in ast.walk(ast.parse(path.read_text(encoding="ascii"))):
            if isinstance(node, kinds):
                yield f"{path.name}:{getattr(node, 'lineno', 0)}", node


class Language(unittest.TestCase):
    def test_files(self):
        self.assertIn(PACKAGE / "__init__.py", FILES)
        others = [p for p in PACKAGE.rglob("*") if p.is_file() and p.suffix != ".pyc" and p not in FILES]
        self.assertEqual(others, [])
        for path in FILES:
            self.assertRegex(path.name, r"\A(__init__|[a-z][a-z0-9_]*)\.py\Z")
            self.assertNotIn(path.stem, dir(builtins))

    def test_signs_and_sizes(self):
        for path in FILES:
            text = path.read_bytes().decode("ascii")
            self.assertRegex(text, r"\A[ -~\n]*\Z", path.name)
            self.assertLessEqual(len(text.splitlines()), 400, path.name)
            self.assertLessEqual(max(len(line) for line in text.splitlines()), 120, path.name)
            self.assertIsNone(WORDS_NOWHERE.search(text), path.name)
        for place, node in nodes(ast.FunctionDef):
            self.assertLessEqual(node.end_lineno - node.lineno + 1, 40, place)

    def test_statements(self):
        for place, node in nodes(ast.stmt):
            self.assertIsInstance(node, STATEMENTS, place)
        for place, node in nodes((ast.For, ast.While)):
            self.assertEqual(node.orelse, [], place)
        for place, node in nodes(ast.Try):
            self.assertEqual(node.finalbody, [], place)
        for place, node in nodes(ast.Assign):
            self.assertEqual(len(node.targets), 1, place)
            self.assertNotIsInstance(node.targets[0], ast.Tuple, place)
        for place, node in nodes((ast.FunctionDef, ast.ClassDef, ast.If, ast.For, ast.While)):
            for inner in node.body:
                if isinstance(inner, ast.Expr):
                    self.assertIsInstance(inner.value, ast.Call, place)
        for path in FILES:
            for node in ast.parse(path.read_text()).body:
                if isinstance(node, ast.Assign):
                    ast.literal_eval(node.value)

    def test_expressions(self):
        for place, node in nodes(OUTSIDE):
            self.fail(place)
        for place, node in nodes(ast.Constant):
            self.assertIn(type(node.value), (int, str, bool, type(None)), place)
            self.assertNotIn("%", str(node.value), place)
        for place, node in nodes(ast.ListComp):
            self.assertEqual(len(node.generators), 1, place)
            self.assertLessEqual(len(node.generators[0].ifs), 1, place)
        for place, node in nodes(ast.Compare):
            for operator, side in zip(node.ops, node.comparators):
                if isinstance(operator, (ast.Is, ast.IsNot)):
                    self.assertIsInstance(side, ast.Constant, place)

    def test_imports(self):
        drawn = {}
        for path in FILES:
            tree = ast.parse(path.read_text())
            drawn[path.stem] = []
            for node in ast.walk(tree):
                if isinstance(node, ast.ImportFrom):
                    self.assertIn(node, tree.body)
                    self.assertEqual((node.level, node.module.split(".")[0]), (0, "orderlines"))
                    self.assertTrue(all(name.asname is None and name.name != "*" for name in node.names))
                    drawn[path.stem].append(node.module.split(".")[1])
        while drawn:
            free = [name for name in drawn if not any(other in drawn for other in drawn[name])]
            self.assertNotEqual(free, [], f"files that draw from one another: {sorted(drawn)}")
            drawn = {name: drawn[name] for name in drawn if name not in free}

    def test_names(self):
        for place, node in nodes(ast.Name):
            self.assertRegex(node.id, PLAIN_NAME, place)
            if isinstance(node.ctx, ast.Store):
                self.assertNotIn(node.id, dir(builtins), place)
            elif node.id in dir(builtins):
                self.assertIn(node.id, OWN_NAMES, place)
        for place, node in nodes(ast.arg):
            self.assertRegex(node.arg, PLAIN_NAME, place)
            self.assertNotIn(node.arg, dir(builtins), place)
            self.assertIsNone(node.annotation, place)
        for place, node in nodes((ast.FunctionDef, ast.ClassDef)):
            self.assertEqual(node.decorator_list, [], place)

    def test_names_of_a_file(self):
        for path in FILES:
            tree = ast.parse(path.read_text())
            top = [node.name for node in tree.body if isinstance(node, (ast.FunctionDef, ast.ClassDef))]
            top += [name.name for node in tree.body if isinstance(node, ast.ImportFrom) for name in node.names]
            top += [node.targets[0].id for node in tree.body if isinstance(node, ast.Assign)]
            self.assertEqual(len(top), len(set(top)), path.name)
            for function in [node for node in ast.walk(tree) if isinstance(node, ast.FunctionDef)]:
                bound = [node.arg for node in ast.walk(function) if isinstance(node, ast.arg)]
                bound += [node.id for node in ast.walk(function)
                          if isinstance(node, ast.Name) and isinstance(node.ctx, ast.Store)]
                self.assertEqual(sorted(set(bound) & set(top)), [], path.name)

    def test_methods_and_values(self):
        bodies = [node for _, cls in nodes(ast.ClassDef) for node in cls.body]
        methods = {node.name for node in bodies if isinstance(node, ast.FunctionDef)}
        values = {node.attr for _, node in nodes(ast.Attribute) if isinstance(node.ctx, ast.Store)}
        self.assertEqual(methods & values, set())
        self.assertEqual((methods | values) & PYTHONS - {"__init__"}, set())
        for place, node in nodes(ast.Attribute):
            self.assertRegex(node.attr, PLAIN_NAME, place)
            self.assertIn(node.attr, methods | values | METHODS, place)


if __name__ == "__main__":
    unittest.main()
