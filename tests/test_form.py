"""The form of the package's files: the small part of Python that they keep to."""

import ast
import builtins
import pathlib
import re
import unittest

PACKAGE = pathlib.Path(__file__).resolve().parent.parent / "sharedlists"
FILES = sorted(path for path in PACKAGE.rglob("*") if path.is_file() and "__pycache__" not in path.parts)

BUILT_IN = set("""len range enumerate zip min max sum abs sorted reversed int str bool list tuple dict set frozenset
    isinstance ord repr any all divmod Exception ValueError TypeError KeyError IndexError LookupError ZeroDivisionError
    ArithmeticError OverflowError RuntimeError NotImplementedError AttributeError StopIteration""".split())
METHODS = set("""append clear copy count endswith extend find get index insert isalnum isalpha isdigit islower isspace
    isupper items join keys ljust lower lstrip partition pop remove replace reverse rfind rjust rpartition rsplit rstrip
    setdefault split splitlines startswith strip update upper values zfill bit_length""".split())
VALUES = set("count index title find get join lower upper split strip copy add".split())
NOWHERE = set("""type typing typing_extensions enum Enum IntEnum StrEnum Flag IntFlag Generic Protocol ABC ABCMeta
    namedtuple NamedTuple TypedDict TYPE_CHECKING abstractmethod""".split())
NO_NAMES = set("""register mro elements open input version_info with_traceback add_note attrgetter breakpoint builtins
    compile copyright credits delattr dir eval exec exit gc getattr globals hasattr help id importlib license locals
    methodcaller os quit setattr super type vars sys""".split())
NODES = (
    ast.Module, ast.Expr, ast.ImportFrom, ast.alias, ast.FunctionDef, ast.ClassDef, ast.arguments, ast.arg, ast.Assign,
    ast.AugAssign, ast.If, ast.While, ast.For, ast.Return, ast.Break, ast.Continue, ast.Pass, ast.Constant, ast.Name,
    ast.Load, ast.Store, ast.List, ast.Tuple, ast.Dict, ast.Subscript, ast.Slice, ast.Attribute, ast.Call, ast.Compare,
    ast.BoolOp, ast.UnaryOp, ast.BinOp, ast.IfExp, ast.ListComp, ast.comprehension, ast.boolop, ast.unaryop, ast.cmpop,
    ast.Add, ast.Sub, ast.Mult, ast.FloorDiv, ast.Mod,
)


def source(path):
    return path.read_text(encoding="utf-8")


def tree(path):
    return ast.parse(source(path))


def nodes(path, kind):
    return [node for node in ast.walk(tree(path)) if isinstance(node, kind)]


def is_plain(value, functions):
    if isinstance(value, ast.UnaryOp):
        return isinstance(value.op, ast.USub) and isinstance(value.operand, ast.Constant)
    if isinstance(value, (ast.Tuple, ast.List)):
        return all(is_plain(part, functions) for part in value.elts)
    if isinstance(value, ast.Dict):
        return all(is_plain(part, functions) for part in value.keys + value.values)
    return isinstance(value, ast.Constant) or isinstance(value, ast.Name) and value.id in functions


class Form(unittest.TestCase):
    def test_files(self):
        self.assertIn("__init__.py", [path.name for path in FILES])
        for path in FILES:
            with self.subTest(path.name):
                self.assertRegex(path.name, r"^([a-z][a-z0-9_]*|__init__)\.py$")
                self.assertEqual(path.parent, PACKAGE)
                self.assertNotIn(path.stem, dir(builtins))

    def test_signs_and_sizes(self):
        for path in FILES:
            with self.subTest(path.name):
                text = source(path)
                self.assertRegex(text, r"^[ -~\n]*\Z")
                self.assertLessEqual(len(text.splitlines()), 400)
                self.assertLessEqual(max(len(line) for line in text.splitlines()), 120)
                self.assertEqual(NOWHERE & set(re.findall(r"\w+", text)), set())
                self.assertNotRegex(text, "dataclass|overload|contextmanager")
                for node in nodes(path, ast.FunctionDef):
                    self.assertLessEqual(node.end_lineno - node.lineno + 1, 40, node.name)

    def test_kinds_of_statements_and_expressions(self):
        for path in FILES:
            with self.subTest(path.name):
                for node in ast.walk(tree(path)):
                    self.assertIsInstance(node, NODES, getattr(node, "lineno", None))
                for node in nodes(path, (ast.For, ast.While)):
                    self.assertEqual(node.orelse, [])
                for node in nodes(path, ast.Assign):
                    self.assertEqual(len(node.targets), 1)
                    self.assertNotIsInstance(node.targets[0], ast.Tuple)
                for node in nodes(path, ast.ListComp):
                    self.assertEqual(len(node.generators), 1)
                for node in nodes(path, ast.Constant):
                    self.assertIn(type(node.value), (int, str, bool, type(None)))
                    self.assertFalse(isinstance(node.value, str) and "%" in node.value)
                for node in nodes(path, ast.Compare):
                    if any(isinstance(op, (ast.Is, ast.IsNot)) for op in node.ops):
                        self.assertIsInstance(node.comparators[0], ast.Constant)

    def test_top_of_a_module(self):
        for path in FILES:
            with self.subTest(path.name):
                functions, bound = [], []
                for place, node in enumerate(tree(path).body):
                    if isinstance(node, ast.Expr):
                        self.assertEqual(place, 0)
                    elif isinstance(node, (ast.FunctionDef, ast.ClassDef)):
                        functions += [node.name] if isinstance(node, ast.FunctionDef) else []
                        bound.append(node.name)
                        self.assertEqual(node.decorator_list, [])
                    elif isinstance(node, ast.Assign):
                        self.assertTrue(is_plain(node.value, functions), node.lineno)
                        bound.append(node.targets[0].id)
                    else:
                        self.assertIsInstance(node, ast.ImportFrom)
                        bound += [alias.name for alias in node.names]
                self.assertEqual(len(bound), len(set(bound)))

    def test_imports(self):
        draws = {}
        for path in FILES:
            with self.subTest(path.name):
                draws[path.stem] = []
                for node in nodes(path, ast.ImportFrom):
                    self.assertRegex(node.module, r"^sharedlists\.[a-z]+$")
                    self.assertEqual(node.level, 0)
                    other = node.module.split(".")[1]
                    draws[path.stem].append(other)
                    own = [part.name if hasattr(part, "name") else part.targets[0].id
                           for part in tree(PACKAGE / (other + ".py")).body
                           if isinstance(part, (ast.FunctionDef, ast.ClassDef, ast.Assign))]
                    for alias in node.names:
                        self.assertIn(alias.name, own)
                        self.assertIsNone(alias.asname)
        while draws:
            free = [name for name in draws if not set(draws[name]) & set(draws)]
            self.assertNotEqual(free, [], "files draw from one another")
            draws = {name: draws[name] for name in draws if name not in free}

    def test_names(self):
        for path in FILES:
            with self.subTest(path.name):
                stored = [node.id for node in nodes(path, ast.Name) if isinstance(node.ctx, ast.Store)]
                stored += [node.arg for node in nodes(path, ast.arg)]
                defined = [node.name for node in nodes(path, (ast.FunctionDef, ast.ClassDef))
                           if node.name != "__init__"]
                imported = [alias.name for node in nodes(path, ast.ImportFrom) for alias in node.names]
                classes = [node.name for node in nodes(path, ast.ClassDef)]
                known = set(stored + defined + imported)
                for name in known:
                    self.assertRegex(name, r"^[A-Za-z][A-Za-z0-9_]*$")
                self.assertEqual(set(stored + defined) & set(dir(builtins)), set())
                self.assertEqual(set(stored) & set(imported + classes), set())
                self.assertEqual(known & NO_NAMES, set())
                for node in nodes(path, ast.Name):
                    self.assertTrue(node.id in known or node.id in BUILT_IN, node.id)

    def test_attributes(self):
        methods, values = set(), set()
        for path in FILES:
            for node in nodes(path, ast.ClassDef):
                methods |= {part.name for part in node.body if isinstance(part, ast.FunctionDef)} - {"__init__"}
                for part in ast.walk(node):
                    if isinstance(part, ast.Attribute) and isinstance(part.ctx, ast.Store):
                        values.add(part.attr)
        self.assertEqual(methods & values, set())
        python_own = set(dir(str) + dir(int) + dir(list) + dir(dict) + dir(set) + dir(bytes))
        self.assertEqual(values & python_own - VALUES, set())
        self.assertEqual(methods & python_own - METHODS - {"add", "discard"}, set())
        for path in FILES:
            with self.subTest(path.name):
                for node in nodes(path, ast.Attribute):
                    self.assertIn(node.attr, methods | values | METHODS)
                    self.assertNotIn(node.attr, NO_NAMES)


if __name__ == "__main__":
    unittest.main()
