"""The package keeps to its part of the language, as far as that is seen from the files alone."""

import ast
import builtins
import pathlib
import re
import unittest

PACKAGE = pathlib.Path(__file__).resolve().parent.parent / "lutesettings"

NODES = {
    "Module", "ImportFrom", "alias", "FunctionDef", "arguments", "arg", "ClassDef", "Lambda", "Load", "Store",
    "Assign", "AugAssign", "If", "While", "For", "Return", "Break", "Continue", "Pass", "Raise", "Try",
    "ExceptHandler", "Expr", "Call", "keyword", "Constant", "List", "Tuple", "Dict", "Name", "Attribute",
    "Subscript", "Slice", "ListComp", "comprehension", "IfExp", "JoinedStr", "FormattedValue", "Compare", "BoolOp",
    "And", "Or", "UnaryOp", "Not", "USub", "Invert", "BinOp", "Add", "Sub", "Mult", "FloorDiv", "Mod", "Pow",
    "BitAnd", "BitOr", "BitXor", "LShift", "RShift", "Eq", "NotEq", "Lt", "LtE", "Gt", "GtE", "Is", "IsNot", "In",
    "NotIn",
}
BUILT_IN = set(
    "len range enumerate zip min max sum abs sorted reversed int str bool list tuple dict set frozenset isinstance "
    "ord repr any all divmod Exception ValueError KeyError IndexError LookupError ZeroDivisionError "
    "ArithmeticError OverflowError RuntimeError NotImplementedError StopIteration".split())
METHODS = set(
    "append clear copy count endswith extend find get index insert isalnum isalpha isdigit islower isspace isupper "
    "items join keys ljust lower lstrip partition pop remove replace reverse rfind rjust rpartition rsplit rstrip "
    "setdefault split splitlines startswith strip update upper values zfill bit_length".split())
UNUSED_WORDS = re.compile(
    r"\b(type|typing|typing_extensions|enum|Enum|IntEnum|StrEnum|Flag|IntFlag|Generic|Protocol|ABC|ABCMeta|"
    r"namedtuple|NamedTuple|TypedDict|TYPE_CHECKING|abstractmethod)\b|dataclass|overload|contextmanager")
UNUSED_NAMES = set(
    "register mro elements open input version_info with_traceback add_note format format_map attrgetter breakpoint "
    "builtins compile copyright credits delattr dir eval exec exit gc getattr globals hasattr help id importlib "
    "license locals methodcaller os quit setattr super vars sys chr print".split())
DUNDERS = {"__init__", "__eq__", "__repr__", "__str__", "__len__"}


# What is walked on the spot, and what walks it.
WALKED = ("zip", "enumerate", "reversed", "range", "items", "keys", "values")
WALKERS = ("list", "tuple", "dict", "sorted", "sum", "any", "all", "enumerate", "zip")


def called_name(node):
    """The name or the method that a call calls."""
    return node.func.id if isinstance(node.func, ast.Name) else getattr(node.func, "attr", None)


def sources():
    return {path: path.read_text(encoding="ascii") for path in sorted(PACKAGE.rglob("*.py"))}


def trees():
    return {path: ast.parse(source) for path, source in sources().items()}


def nodes():
    for path, tree in trees().items():
        for node in ast.walk(tree):
            yield f"{path.name}:{getattr(node, 'lineno', 0)}", node


class Files(unittest.TestCase):
    def test_nothing_else_lies_in_the_package(self):
        for path in PACKAGE.rglob("*"):
            if "__pycache__" not in path.parts:
                self.assertRegex(path.name, r"^([a-z][a-z0-9_]*|__init__)\.py$")
                self.assertNotIn(path.stem, dir(builtins))
        self.assertTrue((PACKAGE / "__init__.py").exists())

    def test_sizes_and_signs(self):
        for path, source in sources().items():
            self.assertRegex(source, r"\A[ -~\n]*\Z", path.name)
            rows = source.split("\n")
            self.assertLessEqual(len(rows), 400, path.name)
            self.assertLessEqual(max(map(len, rows)), 120, path.name)
        for where, node in nodes():
            if isinstance(node, ast.FunctionDef):
                self.assertLessEqual(node.end_lineno - node.lineno + 1, 40, where)

    def test_words_that_stand_nowhere(self):
        for path, source in sources().items():
            self.assertIsNone(UNUSED_WORDS.search(source), path.name)

    def test_the_top_of_a_module(self):
        for path, tree in trees().items():
            self.assertIsNotNone(ast.get_docstring(tree), path.name)
            bound = []
            for node in tree.body[1:]:
                if isinstance(node, ast.Assign):
                    ast.literal_eval(node.value)
                    bound.append(node.targets[0].id)
                else:
                    self.assertIsInstance(node, (ast.ImportFrom, ast.FunctionDef, ast.ClassDef), path.name)
                    bound += [name.name for name in node.names] if isinstance(node, ast.ImportFrom) else [node.name]
            self.assertEqual(len(bound), len(set(bound)), path.name)

    def test_imports(self):
        defined = {}
        for path, tree in trees().items():
            defined["lutesettings." + path.stem] = [
                node.targets[0].id if isinstance(node, ast.Assign) else node.name
                for node in tree.body if isinstance(node, (ast.Assign, ast.FunctionDef, ast.ClassDef))]
        draws = {}
        for path, tree in trees().items():
            drawn = [node for node in tree.body if isinstance(node, ast.ImportFrom)]
            draws["lutesettings." + path.stem] = {node.module for node in drawn}
            for node in drawn:
                self.assertEqual(node.level, 0)
                for name in node.names:
                    self.assertIsNone(name.asname)
                    self.assertIn(name.name, defined[node.module])
        while draws:
            free = [module for module, drawn in draws.items() if not drawn & draws.keys()]
            self.assertTrue(free, "files that draw from one another")
            for module in free:
                draws.pop(module)


class Forms(unittest.TestCase):
    def test_statements_and_expressions(self):
        for where, node in nodes():
            self.assertIn(type(node).__name__, NODES, where)
            if isinstance(node, ast.Assign):
                self.assertEqual(len(node.targets), 1, where)
            if isinstance(node, (ast.For, ast.While)):
                self.assertEqual(node.orelse, [], where)
            if isinstance(node, ast.Try):
                self.assertEqual(node.finalbody, [], where)
            if isinstance(node, ast.ListComp):
                self.assertEqual(len(node.generators), 1, where)
                self.assertLessEqual(len(node.generators[0].ifs), 1, where)
            if isinstance(node, ast.Constant):
                self.assertIn(type(node.value), (int, str, bool, type(None)), where)
            if isinstance(node, ast.BinOp) and isinstance(node.op, ast.Pow):
                self.assertIsInstance(node.right, ast.Constant, where)

    def test_functions_and_classes(self):
        for where, node in nodes():
            if isinstance(node, ast.arguments):
                self.assertEqual((node.vararg, node.kwarg, node.kwonlyargs, node.posonlyargs),
                                 (None, None, [], []), where)
            if isinstance(node, (ast.FunctionDef, ast.ClassDef)):
                self.assertEqual(node.decorator_list, [], where)
            if isinstance(node, ast.ClassDef):
                self.assertLessEqual(len(node.bases), 1, where)

    def test_what_is_walked_at_once(self):
        for path, tree in trees().items():
            walked = set()
            for node in ast.walk(tree):
                if isinstance(node, (ast.For, ast.comprehension)):
                    walked.add(node.iter)
                if isinstance(node, ast.Call) and isinstance(node.func, ast.Name) and node.args:
                    if node.func.id in WALKERS:
                        walked.add(node.args[0])
                    if node.func.id in ("min", "max") and len(node.args) == 1:
                        walked.add(node.args[0])
            for node in ast.walk(tree):
                if isinstance(node, ast.Call) and called_name(node) in WALKED:
                    self.assertIn(node, walked, f"{path.name}:{node.lineno}")

    def test_keywords_and_sets(self):
        allowed = {"sorted": {"key", "reverse"}, "min": {"key", "default"}, "max": {"key", "default"},
                   "sum": {"start"}, "enumerate": {"start"}, "zip": {"strict"}}
        for where, node in nodes():
            if isinstance(node, ast.Call):
                self.assertLessEqual({word.arg for word in node.keywords}, allowed.get(called_name(node), set()), where)
                self.assertNotIn(called_name(node), ("set", "frozenset"), where)
            if isinstance(node, (ast.Assign, ast.AugAssign)):
                target = node.targets[0] if isinstance(node, ast.Assign) else node.target
                self.assertIsInstance(target, (ast.Name, ast.Attribute, ast.Subscript), where)
                if isinstance(target, ast.Attribute):
                    self.assertIsInstance(target.value, ast.Name, where)

    def test_lists_and_dicts_of_the_top_are_only_read(self):
        for path, tree in trees().items():
            kept = {node.targets[0].id for node in tree.body
                    if isinstance(node, ast.Assign) and isinstance(node.value, (ast.List, ast.Dict))}
            read = set()
            for node in ast.walk(tree):
                if isinstance(node, ast.Subscript) and isinstance(node.ctx, ast.Load):
                    read.add(node.value)
                if isinstance(node, ast.Compare):
                    read.update(node.comparators)
            for node in ast.walk(tree):
                if isinstance(node, ast.Name) and node.id in kept and isinstance(node.ctx, ast.Load):
                    self.assertIn(node, read, f"{path.name}:{node.lineno}")

    def test_names(self):
        own = {node.name for where, node in nodes() if isinstance(node, (ast.FunctionDef, ast.ClassDef))}
        given = {node.attr for where, node in nodes()
                 if isinstance(node, ast.Attribute) and isinstance(node.ctx, ast.Store)}
        self.assertEqual(own & given, set())
        for where, node in nodes():
            if isinstance(node, ast.Attribute):
                self.assertIn(node.attr, own | given | METHODS, where)
                self.assertNotIn(node.attr, UNUSED_NAMES, where)
            bound = None
            if isinstance(node, ast.Name):
                self.assertNotIn(node.id, UNUSED_NAMES, where)
                if isinstance(node.ctx, ast.Store):
                    bound = node.id
                elif hasattr(builtins, node.id):
                    self.assertIn(node.id, BUILT_IN, where)
            elif isinstance(node, ast.arg):
                bound = node.arg
            elif isinstance(node, (ast.FunctionDef, ast.ClassDef)):
                bound = node.name
            if bound is not None and bound not in DUNDERS:
                self.assertRegex(bound, r"^[A-Za-z][A-Za-z0-9_]*$", where)
                self.assertFalse(hasattr(builtins, bound), where)


if __name__ == "__main__":
    unittest.main()
