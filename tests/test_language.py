"""The package's files keep to the part of Python that the program is written in.

What a look at the syntax tree can tell is looked at here; where the package does without a thing
that the rules would allow in places (a list at a file's top, an annotation, a power), it is refused.
"""

import ast
import builtins
import re
import unittest
from pathlib import Path

PACKAGE = Path(__file__).resolve().parent.parent / "gutfrets"
STATEMENTS = (
    ast.Assign, ast.AugAssign, ast.If, ast.While, ast.For, ast.Return, ast.Break, ast.Continue, ast.Pass, ast.Raise,
    ast.Try, ast.Expr, ast.FunctionDef, ast.ClassDef, ast.ImportFrom,
)
EXPRESSIONS = (
    ast.BoolOp, ast.BinOp, ast.UnaryOp, ast.Lambda, ast.IfExp, ast.Dict, ast.Compare, ast.Call, ast.Constant,
    ast.Attribute, ast.Subscript, ast.Name, ast.List, ast.Tuple, ast.Slice, ast.ListComp, ast.JoinedStr,
    ast.FormattedValue,
)
OPERATORS = (
    ast.Add, ast.Sub, ast.Mult, ast.FloorDiv, ast.Mod, ast.BitAnd, ast.BitOr, ast.BitXor, ast.LShift, ast.RShift,
)
OWN_NAMES = set(
    "len range enumerate zip min max sum abs sorted reversed int str bool list tuple dict set frozenset isinstance "
    "ord repr any all divmod Exception ValueError KeyError IndexError LookupError ZeroDivisionError "
    "ArithmeticError OverflowError RuntimeError NotImplementedError".split()
)
OWN_METHODS = set(
    "append clear copy count endswith extend find get index insert isalnum isalpha isdigit islower isspace isupper "
    "items join keys ljust lower lstrip partition pop remove replace reverse rfind rjust rpartition rsplit rstrip "
    "setdefault split splitlines startswith strip update upper values zfill bit_length".split()
)
DOUBLE_UNDERSCORES = ("__init__", "__eq__", "__repr__", "__str__", "__len__")
UNUSED_NAMES = set(
    "register mro elements open input version_info with_traceback add_note attrgetter breakpoint builtins compile "
    "copyright credits delattr dir eval exec exit gc getattr globals hasattr help id importlib license locals "
    "methodcaller os quit setattr super type vars sys format format_map".split()
)
UNUSED_WORDS = re.compile(
    r"\b(type|typing|typing_extensions|enum|Enum|IntEnum|StrEnum|Flag|IntFlag|Generic|Protocol|ABC|ABCMeta|namedtuple|"
    r"NamedTuple|TypedDict|TYPE_CHECKING|abstractmethod)\b|dataclass|overload|contextmanager"
)
PLAIN_NAME = re.compile("[A-Za-z][A-Za-z0-9_]*")
WALKED = ("range", "zip", "enumerate", "reversed")


def read_sources():
    """Each file of the package with its text and its syntax tree."""
    found = []
    for path in sorted(PACKAGE.glob("*.py")):
        text = path.read_text(encoding="utf-8")
        found.append((path.name, text, ast.parse(text)))
    return found


# Read once, so that a node is found again by being the same one.
SOURCES = read_sources()


def bound_at_top(tree):
    names = []
    for node in tree.body:
        if isinstance(node, (ast.FunctionDef, ast.ClassDef)):
            names.append(node.name)
        elif isinstance(node, ast.Assign):
            names.append(node.targets[0].id)
        elif isinstance(node, ast.ImportFrom):
            names.extend(alias.name for alias in node.names)
    return names


def is_plain_value(node):
    if isinstance(node, ast.Tuple):
        return all(is_plain_value(item) for item in node.elts)
    return isinstance(node, ast.Constant) and isinstance(node.value, (int, str, type(None)))


class LanguageTest(unittest.TestCase):
    def each(self, *kinds):
        """Each node of these kinds, with where it stands."""
        for name, text, tree in SOURCES:
            for node in ast.walk(tree):
                if isinstance(node, kinds):
                    yield f"{name}:{getattr(node, 'lineno', 0)}", node

    def test_files(self):
        self.assertTrue((PACKAGE / "__init__.py").is_file())
        for path in PACKAGE.iterdir():
            if path.name != "__pycache__":
                self.assertRegex(path.name, r"\A([a-z][a-z0-9_]*|__init__|__main__)\.py\Z")
                self.assertFalse(hasattr(builtins, path.stem) and path.stem != "__init__", path.name)
                self.assertNotRegex(path.stem, r"\A(test.*|site|conftest|sitecustomize|usercustomize)\Z")

    def test_signs_words_and_sizes(self):
        for name, text, tree in SOURCES:
            self.assertRegex(text, r"\A[\n -~]*\Z", name)
            self.assertIsNone(UNUSED_WORDS.search(text), name)
            rows = text.splitlines()
            self.assertLessEqual(len(rows), 400, name)
            self.assertLessEqual(max(len(row) for row in rows), 120, name)
        for place, node in self.each(ast.FunctionDef):
            self.assertLessEqual(node.end_lineno - node.lineno + 1, 40, place)

    def test_imports(self):
        defined = {}
        draws = {}
        for name, text, tree in SOURCES:
            module = "gutfrets." + name[:-3]
            imports = [node for node in ast.walk(tree) if isinstance(node, ast.ImportFrom)]
            self.assertTrue(all(node in tree.body and node.level == 0 for node in imports), name)
            draws[module] = imports
            defined[module] = bound_at_top(ast.Module([n for n in tree.body if n not in imports], []))
        for module, imports in draws.items():
            for node in imports:
                for alias in node.names:
                    self.assertIn(alias.name, defined[node.module], module)
                    self.assertIsNone(alias.asname, module)
        self.check_no_rings({module: [node.module for node in imports] for module, imports in draws.items()})

    def check_no_rings(self, draws):
        left = dict(draws)
        while left:
            free = [module for module in left if not any(other in left for other in left[module])]
            self.assertTrue(free, left)
            for module in free:
                left.pop(module)

    def test_tops_of_modules(self):
        for name, text, tree in SOURCES:
            self.assertIsNotNone(ast.get_docstring(tree), name)
            for node in tree.body[1:]:
                self.assertIsInstance(node, (ast.ImportFrom, ast.FunctionDef, ast.ClassDef, ast.Assign), name)
                if isinstance(node, ast.Assign):
                    self.assertTrue(is_plain_value(node.value), ast.dump(node))
            names = bound_at_top(tree)
            self.assertEqual(len(names), len(set(names)), name)

    def test_functions(self):
        for place, node in self.each(ast.FunctionDef, ast.Lambda):
            arguments = node.args
            self.assertFalse(arguments.vararg or arguments.kwarg or arguments.kwonlyargs or arguments.posonlyargs, place)
            for argument in arguments.args:
                self.assertIsNone(argument.annotation, place)
                self.assertRegex(argument.arg, r"\A[A-Za-z][A-Za-z0-9_]*\Z", place)
                self.assertFalse(hasattr(builtins, argument.arg), place)
        for place, node in self.each(ast.FunctionDef):
            self.assertEqual(node.decorator_list, [], place)
            self.assertIsNone(node.returns, place)
            self.assertTrue(PLAIN_NAME.fullmatch(node.name) or node.name in DOUBLE_UNDERSCORES, place)
            self.assertIsNotNone(ast.get_docstring(node) or node.name == "__init__" or None, place)

    def test_classes(self):
        for place, node in self.each(ast.ClassDef):
            self.assertLessEqual(len(node.bases), 1, place)
            self.assertEqual(node.keywords + node.decorator_list, [], place)
            for row in node.body[1:]:
                self.assertIsInstance(row, ast.FunctionDef, place)

    def test_statements(self):
        for place, node in self.each(ast.stmt):
            self.assertIsInstance(node, STATEMENTS, place)
        for place, node in self.each(ast.Assign):
            self.assertEqual(len(node.targets), 1, place)
            self.assertIsInstance(node.targets[0], (ast.Name, ast.Attribute, ast.Subscript), place)
        for place, node in self.each(ast.For, ast.While):
            self.assertEqual(node.orelse, [], place)
        for place, node in self.each(ast.Try):
            self.assertEqual(node.finalbody, [], place)
            for handler in node.handlers:
                self.assertIn(handler.type.id, ("TextFault", "NoInstrument", "Refusal"), place)
        for place, node in self.each(ast.Raise):
            self.assertIsInstance(node.exc, ast.Call, place)
        for place, node in self.each(ast.Expr):
            self.assertTrue(isinstance(node.value, ast.Call) or isinstance(node.value.value, str), place)

    def test_expressions(self):
        for place, node in self.each(ast.expr):
            self.assertIsInstance(node, EXPRESSIONS, place)
        for place, node in self.each(ast.operator):
            self.assertIsInstance(node, OPERATORS, place)
        for place, node in self.each(ast.Constant):
            self.assertIn(type(node.value), (int, str, bool, type(None)), place)
            self.assertNotIn("%", str(node.value), place)
        for place, node in self.each(ast.Is, ast.IsNot):
            self.fail(place)
        for place, node in self.each(ast.FormattedValue):
            self.assertIsInstance(node.value, ast.Name, place)
            self.assertIsNone(node.format_spec, place)
        for place, node in self.each(ast.ListComp):
            self.assertEqual(len(node.generators), 1, place)
            self.assertLessEqual(len(node.generators[0].ifs), 1, place)

    def test_names(self):
        for name, text, tree in SOURCES:
            known = set(bound_at_top(tree)) | OWN_NAMES
            for function in [node for node in ast.walk(tree) if isinstance(node, ast.FunctionDef)]:
                bound = [argument.arg for argument in function.args.args]
                names = [node for node in ast.walk(function) if isinstance(node, ast.Name)]
                bound += [node.id for node in names if isinstance(node.ctx, ast.Store)]
                bound += [node.name for node in ast.walk(function) if isinstance(node, ast.ExceptHandler) and node.name]
                self.assertFalse(set(bound) & known, name)
                self.assertFalse([word for word in bound if hasattr(builtins, word)], name)
                for node in names:
                    self.assertIn(node.id, known | set(bound), name)
                    self.assertRegex(node.id, r"\A[A-Za-z][A-Za-z0-9_]*\Z", name)
                    self.assertNotIn(node.id, UNUSED_NAMES, name)

    def test_methods_and_values(self):
        methods = set()
        for place, node in self.each(ast.ClassDef):
            methods |= {row.name for row in node.body[1:]}
        values = {node.attr for place, node in self.each(ast.Attribute) if isinstance(node.ctx, ast.Store)}
        self.assertFalse(methods & values)
        kinds = (str, int, list, dict, set, bytes)
        self.assertFalse([word for word in values | methods - {"__init__"} if any(hasattr(k, word) for k in kinds)])
        called = [node.func for place, node in self.each(ast.Call)]
        for place, node in self.each(ast.Attribute):
            self.assertNotIn(node.attr, UNUSED_NAMES, place)
            self.assertIn(node.attr, (methods | OWN_METHODS) if node in called else values, place)
        for place, node in self.each(ast.Call):
            self.assertEqual(node.keywords, [], place)

    def test_ranges_are_walked_at_once(self):
        walked = [node.iter for place, node in self.each(ast.For, ast.comprehension)]
        for place, node in self.each(ast.Call):
            if isinstance(node.func, ast.Name) and node.func.id in WALKED:
                self.assertIn(node, walked, place)


if __name__ == "__main__":
    unittest.main()
