"""The package's files keep to the part of Python that they may use: the rows that can be seen in the text."""

import ast
import pathlib
import re
import unittest

PACKAGE = pathlib.Path(__file__).resolve().parent.parent / "cabinsgiven"
FILES = sorted(path for path in PACKAGE.rglob("*") if path.is_file() and "__pycache__" not in path.parts)

NODES = """Module FunctionDef ClassDef arguments arg Return Assign AugAssign AnnAssign For While If Raise Try ExceptHandler
ImportFrom alias Expr Pass Break Continue BoolOp And Or BinOp Add Sub Mult FloorDiv Mod Pow LShift RShift BitOr BitXor
BitAnd UnaryOp Invert Not UAdd USub Lambda IfExp Dict ListComp comprehension Compare Eq NotEq Lt LtE Gt GtE Is IsNot In
NotIn Call Constant Attribute Subscript Name List Tuple Slice Load Store keyword JoinedStr FormattedValue""".split()
BUILT_IN = """len range enumerate zip min max sum abs sorted reversed int str bool list tuple dict isinstance ord repr any all
divmod Exception ValueError TypeError KeyError IndexError LookupError ZeroDivisionError ArithmeticError OverflowError
RuntimeError NotImplementedError AttributeError StopIteration""".split()
METHODS = """append clear copy count endswith extend find get index insert isalnum isalpha isdigit islower isspace isupper
items join keys ljust lower lstrip partition pop remove replace reverse rfind rjust rpartition rsplit rstrip setdefault
split splitlines startswith strip update upper values zfill bit_length""".split()
WORDS = """type typing typing_extensions enum Enum IntEnum StrEnum Flag IntFlag Generic Protocol ABC ABCMeta namedtuple
NamedTuple TypedDict TYPE_CHECKING abstractmethod""".split()
NOT_NAMES = """register mro elements open input version_info with_traceback add_note attrgetter breakpoint builtins compile
copyright credits delattr dir eval exec exit gc getattr globals hasattr help id importlib license locals methodcaller os
quit setattr super type vars sys""".split()
WALKED = ("range", "zip", "enumerate", "reversed", "items", "keys", "values")
WALKERS = ("list", "tuple", "dict", "sorted", "sum", "any", "all", "enumerate", "zip")


def walk(tree, kind):
    return [node for node in ast.walk(tree) if isinstance(node, kind)]


def bound_names(tree):
    """Every name that a file gives a meaning to, anywhere."""
    names = [node.name for node in walk(tree, (ast.FunctionDef, ast.ClassDef))]
    names += [node.arg for node in walk(tree, ast.arg)]
    names += [node.id for node in walk(tree, ast.Name) if isinstance(node.ctx, ast.Store)]
    names += [node.name for node in walk(tree, ast.alias)]
    return names


def own_methods():
    found = set()
    for path in FILES:
        for node in walk(ast.parse(path.read_text()), ast.ClassDef):
            found |= {part.name for part in node.body if isinstance(part, ast.FunctionDef)}
    return found


def own_values():
    found = set()
    for path in FILES:
        found |= {node.attr for node in walk(ast.parse(path.read_text()), ast.Attribute) if isinstance(node.ctx, ast.Store)}
    return found


def top_names(tree):
    names = []
    for node in tree.body:
        if isinstance(node, (ast.FunctionDef, ast.ClassDef)):
            names.append(node.name)
        elif isinstance(node, ast.ImportFrom):
            names += [part.name for part in node.names]
        elif isinstance(node, ast.Assign):
            names.append(node.targets[0].id)
    return names


class Language(unittest.TestCase):
    def each(self):
        for path in FILES:
            text = path.read_text(encoding="utf-8")
            yield path, text, ast.parse(text, filename=str(path))

    def test_files(self):
        self.assertIn(PACKAGE / "purser.py", FILES)
        self.assertIn(PACKAGE / "__init__.py", FILES)
        for path in FILES:
            self.assertRegex(path.name, r"^(__init__|[a-z][a-z0-9_]*)\.py$")
            self.assertNotRegex(path.stem, r"^(test.*|site|conftest|sitecustomize|usercustomize)$")

    def test_size_and_signs(self):
        for path, text, tree in self.each():
            self.assertLessEqual(len(text.splitlines()), 400)
            self.assertLessEqual(max(len(line) for line in text.splitlines()), 120)
            self.assertRegex(text, r"\A[ -~\n]*\Z")
            for node in walk(tree, ast.FunctionDef):
                self.assertLessEqual(node.end_lineno - node.lineno + 1, 40)

    def test_words(self):
        for path, text, tree in self.each():
            self.assertEqual([word for word in re.findall(r"\w+", text) if word in WORDS], [])
            self.assertNotRegex(text, r"dataclass|overload|contextmanager")

    def test_kinds_of_node(self):
        for path, text, tree in self.each():
            found = {node.__class__.__name__ for node in ast.walk(tree)}
            self.assertEqual(found - set(NODES), set())

    def test_top_of_a_file(self):
        for path, text, tree in self.each():
            self.assertIsNotNone(ast.get_docstring(tree))
            for node in tree.body[1:]:
                self.assertIsInstance(node, (ast.ImportFrom, ast.FunctionDef, ast.ClassDef, ast.Assign))
            names = top_names(tree)
            self.assertEqual(len(names), len(set(names)))

    def test_imports(self):
        for path, text, tree in self.each():
            for node in walk(tree, ast.ImportFrom):
                self.assertIn(node, tree.body)
                self.assertEqual(node.level, 0)
                self.assertRegex(node.module, r"^cabinsgiven\.[a-z]+$")
                source = ast.parse((PACKAGE / (node.module.split(".")[1] + ".py")).read_text())
                defined = top_names(ast.Module([part for part in source.body if not isinstance(part, ast.ImportFrom)], []))
                for part in node.names:
                    self.assertIn(part.name, defined)
                    self.assertIsNone(part.asname)

    def test_no_two_files_draw_from_one_another(self):
        draws = {path.stem: {node.module.split(".")[1] for node in walk(tree, ast.ImportFrom)}
                 for path, text, tree in self.each()}
        for time in range(len(draws)):
            draws = {stem: few.union(*[draws[other] for other in few]) for stem, few in draws.items()}
        self.assertEqual([stem for stem, few in draws.items() if stem in few], [])

    def test_statements(self):
        for path, text, tree in self.each():
            for node in walk(tree, ast.Assign):
                self.assertEqual(len(node.targets), 1)
                self.assertNotIsInstance(node.targets[0], (ast.Tuple, ast.List))
            for node in walk(tree, (ast.For, ast.While)):
                self.assertEqual(node.orelse, [])
            for node in walk(tree, ast.Expr):
                self.assertTrue(isinstance(node.value, ast.Call) or node is tree.body[0])
            for node in walk(tree, ast.ListComp):
                self.assertEqual(len(node.generators), 1)
                self.assertLessEqual(len(node.generators[0].ifs), 1)
            for node in walk(tree, ast.Constant):
                self.assertIsInstance(node.value, (int, str, type(None)))

    def test_functions_and_classes(self):
        for path, text, tree in self.each():
            for node in walk(tree, (ast.FunctionDef, ast.ClassDef)):
                self.assertEqual(node.decorator_list, [])
            for node in walk(tree, ast.arguments):
                self.assertEqual([node.vararg, node.kwarg, node.kwonlyargs, node.posonlyargs], [None, None, [], []])
            for node in walk(tree, ast.ClassDef):
                self.assertIn(node, tree.body)
                self.assertEqual([part for part in node.body if not isinstance(part, ast.FunctionDef)], [])

    def test_names(self):
        for path, text, tree in self.each():
            bound = bound_names(tree)
            for name in bound:
                self.assertTrue(name == "__init__" or re.match(r"^[A-Za-z][A-Za-z0-9_]*$", name), name)
                self.assertNotIn(name, BUILT_IN + NOT_NAMES)
            for node in walk(tree, ast.Name):
                self.assertIn(node.id, bound + BUILT_IN)
            own = [part.name for node in walk(tree, ast.ImportFrom) for part in node.names]
            own += [node.name for node in walk(tree, ast.ClassDef)]
            locals_here = [node.arg for node in walk(tree, ast.arg)]
            locals_here += [node.id for node in walk(tree, ast.Name) if isinstance(node.ctx, ast.Store)]
            self.assertEqual(set(own) & set(locals_here), set())

    def test_methods(self):
        methods = own_methods()
        values = own_values()
        self.assertEqual(methods & values, set())
        self.assertEqual(values & set(dir(str) + dir(int) + dir(list) + dir(dict) + dir(set) + dir(bytes)), set())
        for path, text, tree in self.each():
            called = [node.func for node in walk(tree, ast.Call) if isinstance(node.func, ast.Attribute)]
            for node in called:
                self.assertIn(node.attr, METHODS + sorted(methods))
            for node in walk(tree, ast.Attribute):
                self.assertTrue(node in called or node.attr in values, node.attr)

    def test_is_stands_beside_none_alone(self):
        for path, text, tree in self.each():
            for node in walk(tree, ast.Compare):
                if isinstance(node.ops[0], (ast.Is, ast.IsNot)):
                    self.assertIn(node.comparators[0].value, (None, True, False))

    def test_walked_on_the_spot(self):
        for path, text, tree in self.each():
            walked = [node.iter for node in walk(tree, (ast.For, ast.comprehension))]
            for node in walk(tree, ast.Call):
                if isinstance(node.func, ast.Name) and node.func.id in WALKERS:
                    walked += node.args[:1]
            for node in walk(tree, ast.Call):
                name = node.func.id if isinstance(node.func, ast.Name) else node.func.attr
                if name in WALKED:
                    self.assertIn(node, walked)
