"""The part of Python that the package keeps to, as far as it can be seen from its syntax."""

import ast
import builtins
import pathlib
import re
import tokenize
import unittest

import sealedbook

FOLDER = pathlib.Path(sealedbook.__file__).parent

NODES = """Module FunctionDef arguments arg ClassDef Expr Assign AugAssign If While For Return Break Continue Pass
Raise Try ExceptHandler ImportFrom alias Constant List Tuple Dict Name Load Store Attribute Subscript Slice Call keyword
BinOp Add Sub Mult FloorDiv Mod Pow BitAnd BitOr BitXor LShift RShift UnaryOp USub Not Invert Compare Eq NotEq Lt LtE
Gt GtE In NotIn Is IsNot BoolOp And Or IfExp ListComp comprehension Lambda JoinedStr FormattedValue""".split()

BUILTINS = """len range enumerate zip min max sum abs sorted reversed int str bool list tuple dict set frozenset isinstance
ord repr any all divmod Exception ValueError TypeError KeyError IndexError LookupError ZeroDivisionError ArithmeticError
OverflowError RuntimeError NotImplementedError AttributeError StopIteration""".split()

METHODS = """append clear copy count endswith extend find get index insert isalnum isalpha isdigit islower isspace isupper
items join keys ljust lower lstrip partition pop remove replace reverse rfind rjust rpartition rsplit rstrip setdefault
split splitlines startswith strip update upper values zfill bit_length""".split()

UNUSED = """register mro elements open input version_info with_traceback add_note attrgetter breakpoint builtins compile
copyright credits delattr dir eval exec exit gc getattr globals hasattr help id importlib license locals methodcaller os
quit setattr super type vars sys""".split()

NO_WORDS = """type typing typing_extensions enum Enum IntEnum StrEnum Flag IntFlag Generic Protocol ABC ABCMeta namedtuple
NamedTuple TypedDict TYPE_CHECKING abstractmethod""".split()

WALKED = ("zip", "enumerate", "reversed", "range", "items", "keys", "values")
WALKERS = ("list", "tuple", "dict", "sorted", "sum", "any", "all", "enumerate", "zip", "min", "max")


def sources():
    return [(path, path.read_text(encoding="utf-8")) for path in sorted(FOLDER.glob("*.py"))]


def trees():
    return [(path, ast.parse(text)) for path, text in sources()]


def nodes(kind):
    return [(path.name, node) for path, tree in trees() for node in ast.walk(tree) if isinstance(node, kind)]


def called(node):
    return getattr(node.func, "id", getattr(node.func, "attr", None))


def bound(tree):
    names = [node.id for node in ast.walk(tree) if isinstance(node, ast.Name) and isinstance(node.ctx, ast.Store)]
    names += [node.arg for node in ast.walk(tree) if isinstance(node, ast.arg)]
    return names


def own_methods():
    return [part.name for name, node in nodes(ast.ClassDef) for part in node.body if isinstance(part, ast.FunctionDef)]


class Files(unittest.TestCase):
    def test_only_plain_files(self):
        for path in FOLDER.iterdir():
            if path.name != "__pycache__":
                self.assertRegex(path.name, r"^[a-z_][a-z0-9_]*\.py$")
                self.assertNotIn(path.stem, dir(builtins))

    def test_signs_and_sizes(self):
        for path, text in sources():
            self.assertRegex(text, r"^[ -~\n]*$")
            lines = text.split("\n")
            self.assertLessEqual(len(lines), 401, path)
            self.assertLessEqual(max(len(line) for line in lines), 120, path)

    def test_functions_are_small(self):
        for name, node in nodes(ast.FunctionDef):
            self.assertLessEqual(node.end_lineno - node.lineno + 1, 40, (name, node.name))

    def test_words(self):
        for path, text in sources():
            for word in re.findall(r"\w+", text):
                self.assertNotIn(word, NO_WORDS, path)
            self.assertIsNone(re.search("dataclass|overload|contextmanager", text), path)


class Syntax(unittest.TestCase):
    def test_nodes(self):
        for name, node in nodes(ast.AST):
            self.assertIn(node.__class__.__name__, NODES, (name, getattr(node, "lineno", 0)))

    def test_imports(self):
        for name, node in nodes(ast.ImportFrom):
            self.assertEqual(node.level, 0)
            self.assertRegex(node.module, r"^sealedbook\.")
            target = ast.parse((FOLDER / (node.module.split(".")[1] + ".py")).read_text())
            defined = [part.name for part in target.body if isinstance(part, (ast.FunctionDef, ast.ClassDef))]
            defined += [part.targets[0].id for part in target.body if isinstance(part, ast.Assign)]
            for one in node.names:
                self.assertIn(one.name, defined)
                self.assertIsNone(one.asname)

    def test_imports_go_one_way(self):
        drawn = {path.stem: [] for path, tree in trees()}
        for name, node in nodes(ast.ImportFrom):
            drawn[name[:-3]].append(node.module.split(".")[1])
        while drawn:
            free = [stem for stem in drawn if not any(other in drawn for other in drawn[stem])]
            self.assertTrue(free, drawn)
            drawn = {stem: drawn[stem] for stem in drawn if stem not in free}

    def test_the_top_of_a_module(self):
        for path, tree in trees():
            names = []
            for place, node in enumerate(tree.body):
                if place == 0:
                    self.assertIsNotNone(ast.get_docstring(tree), path)
                    continue
                self.assertIsInstance(node, (ast.ImportFrom, ast.FunctionDef, ast.ClassDef, ast.Assign))
                if isinstance(node, ast.Assign):
                    ast.literal_eval(node.value)
                    names.append(node.targets[0].id)
                elif not isinstance(node, ast.ImportFrom):
                    names.append(node.name)
            self.assertEqual(len(names), len(set(names)), path)

    def test_functions_and_classes(self):
        for name, node in nodes(ast.FunctionDef):
            given = node.args
            self.assertFalse(given.vararg or given.kwarg or given.kwonlyargs or given.posonlyargs or node.returns)
            self.assertEqual(node.decorator_list, [])
        for name, node in nodes(ast.arg):
            self.assertIsNone(node.annotation)
        for name, node in nodes(ast.ClassDef):
            self.assertLessEqual(len(node.bases), 1)
            self.assertFalse(node.decorator_list or node.keywords)
            for place, part in enumerate(node.body):
                self.assertTrue(isinstance(part, ast.FunctionDef) or (place == 0 and isinstance(part, ast.Expr)))

    def test_statements(self):
        for name, node in nodes(ast.Assign):
            self.assertEqual(len(node.targets), 1)
        for name, node in nodes((ast.For, ast.While)):
            self.assertEqual(node.orelse, [])
        for name, node in nodes(ast.Try):
            self.assertEqual(node.finalbody, [])
        for name, node in nodes(ast.ExceptHandler):
            self.assertEqual(node.type.id, "WrongPage")
        for name, node in nodes(ast.Raise):
            self.assertIsInstance(node.exc, ast.Call)
        for name, node in nodes(ast.ListComp):
            self.assertEqual(len(node.generators), 1)
            self.assertLessEqual(len(node.generators[0].ifs), 1)
        for name, node in nodes(ast.Compare):
            for sign, right in zip(node.ops, node.comparators):
                if isinstance(sign, (ast.Is, ast.IsNot)):
                    self.assertIn(right.value, (None, True, False))

    def test_constants(self):
        for name, node in nodes(ast.Constant):
            self.assertTrue(node.value is None or isinstance(node.value, (int, str, bool)))
            if isinstance(node.value, str):
                self.assertNotIn("%", node.value)


class Names(unittest.TestCase):
    def test_plain(self):
        for path, tree in trees():
            with open(path, "rb") as file:
                for token in tokenize.tokenize(file.readline):
                    if token.type == tokenize.NAME and token.string != "__init__":
                        self.assertRegex(token.string, r"^[A-Za-z][A-Za-z0-9_]*$")
                        self.assertNotIn(token.string, UNUSED)

    def test_bound(self):
        for path, tree in trees():
            taken = [node.name for node in ast.walk(tree) if isinstance(node, ast.ClassDef)]
            taken += [node.name for node in ast.walk(tree) if isinstance(node, ast.alias)]
            for name in bound(tree):
                self.assertNotIn(name, dir(builtins), path)
                self.assertNotIn(name, taken, path)

    def test_built_in(self):
        for name, node in nodes(ast.Name):
            if node.id in dir(builtins):
                self.assertIn(node.id, BUILTINS, name)

    def test_methods(self):
        for name, node in nodes(ast.Call):
            if isinstance(node.func, ast.Attribute):
                self.assertIn(node.func.attr, METHODS + own_methods(), name)

    def test_methods_and_values_differ(self):
        values = [node.attr for name, node in nodes(ast.Attribute) if isinstance(node.ctx, ast.Store)]
        methods = own_methods()
        self.assertEqual([name for name in values if name in methods], [])
        plain = dir(str) + dir(int) + dir(list) + dir(dict) + dir(set) + dir(bytes)
        for name in values + [name for name in methods if name != "__init__"]:
            self.assertNotIn(name, plain)

    def test_walked_at_once(self):
        allowed = []
        for name, node in nodes((ast.For, ast.comprehension)):
            allowed.append((name, ast.dump(node.iter, include_attributes=True)))
        for name, node in nodes(ast.Call):
            if called(node) in WALKERS:
                allowed += [(name, ast.dump(one, include_attributes=True)) for one in node.args]
        for name, node in nodes(ast.Call):
            if called(node) in WALKED:
                self.assertIn((name, ast.dump(node, include_attributes=True)), allowed)
