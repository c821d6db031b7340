"""Checks the rules of the subset of Python that a look at the syntax can check."""

import ast
import builtins
import pathlib
import re
import unittest

PACKAGE = pathlib.Path(__file__).resolve().parent.parent / "indoubt"
FILES = sorted(PACKAGE.rglob("*.py"))

LIBRARY = {
    "heapq": {"heappush", "heappop", "heapify", "heapreplace", "heappushpop"},
    "math": {"gcd", "lcm", "isqrt", "comb", "perm", "factorial"},
    "itertools": {"chain", "accumulate", "pairwise", "islice", "zip_longest"},
    "collections": {"defaultdict"},
}
BUILTINS = set("""
    len range enumerate zip min max sum abs sorted reversed int str bool bytes list tuple dict set isinstance ord repr
    any all divmod pow map iter next super property Exception ValueError TypeError KeyError IndexError LookupError
    ZeroDivisionError ArithmeticError OverflowError RuntimeError NotImplementedError AttributeError StopIteration
    NotImplemented
""".split())
METHODS = set("""
    append clear copy count endswith extend find get index insert isalnum isalpha isdigit islower isspace isupper items
    join keys ljust lower lstrip partition pop remove replace reverse rfind rjust rpartition rsplit rstrip setdefault
    split splitlines startswith strip update upper values zfill bit_length add discard sort removeprefix removesuffix
""".split())
SPECIAL_METHODS = {"__init__", "__eq__", "__len__", "__iter__", "__getitem__", "__repr__", "__str__"}
WRONG_WORDS = re.compile(
    r"\b(type|typing|typing_extensions|enum|Enum|IntEnum|StrEnum|Flag|IntFlag|Generic|Protocol|ABC|ABCMeta|namedtuple"
    r"|NamedTuple|TypedDict|TYPE_CHECKING|abstractmethod)\b|dataclass|overload|contextmanager|_wall|_WallAttr")
WRONG_NAMES = {"register", "mro", "elements", "open", "input", "law", "version_info", "with_traceback", "add_note"}
STATEMENTS = (
    ast.Module, ast.FunctionDef, ast.ClassDef, ast.Return, ast.Delete, ast.Assign, ast.AugAssign, ast.For, ast.While,
    ast.If, ast.With, ast.Raise, ast.Try, ast.Assert, ast.ImportFrom, ast.Nonlocal, ast.Expr, ast.Pass, ast.Break,
    ast.Continue,
)
EXPRESSIONS = (
    ast.BoolOp, ast.BinOp, ast.UnaryOp, ast.Lambda, ast.IfExp, ast.Dict, ast.Set, ast.ListComp, ast.SetComp,
    ast.DictComp, ast.GeneratorExp, ast.Compare, ast.Call, ast.FormattedValue, ast.JoinedStr, ast.Constant,
    ast.Attribute, ast.Subscript, ast.Starred, ast.Name, ast.List, ast.Tuple, ast.Slice,
)


def docstrings_in(tree):
    """The nodes of the docstrings of a file."""
    found = []
    for node in ast.walk(tree):
        if isinstance(node, (ast.Module, ast.ClassDef, ast.FunctionDef)) and ast.get_docstring(node) is not None:
            found.append(node.body[0].value)
    return found


def bound_names(tree):
    """The names of functions, classes, parameters and variables of a file."""
    for node in ast.walk(tree):
        if isinstance(node, (ast.FunctionDef, ast.ClassDef)):
            yield node.name
        elif isinstance(node, ast.arg):
            yield node.arg
        elif isinstance(node, ast.Name) and isinstance(node.ctx, ast.Store):
            yield node.id
        elif isinstance(node, ast.alias):
            yield node.asname or node.name


def parsed_files():
    """The name, the text and the syntax tree of each file of the package."""
    for path in FILES:
        text = path.read_text(encoding="utf-8")
        yield path.name, text, ast.parse(text)


class Language(unittest.TestCase):
    def test_the_folder_has_only_files_of_python(self):
        for path in PACKAGE.rglob("*"):
            if path.name != "__pycache__" and path.parent.name != "__pycache__":
                self.assertRegex(path.name, r"\A[a-z0-9_]+\.py\Z")

    def test_sizes_and_characters(self):
        for file, text, tree in parsed_files():
            lines = text.split("\n")
            self.assertLessEqual(len(lines), 400, file)
            for line in lines:
                self.assertRegex(line, r"\A[ -~]{0,120}\Z", file)
            for node in ast.walk(tree):
                if isinstance(node, ast.FunctionDef):
                    self.assertLessEqual(node.end_lineno - node.lineno + 1, 40, f"{file}, {node.name}")

    def test_imports(self):
        modules = {"indoubt." + path.stem for path in FILES}
        for file, _, tree in parsed_files():
            for node in ast.walk(tree):
                if isinstance(node, ast.ImportFrom):
                    self.assertEqual(node.level, 0, file)
                    names = {alias.name for alias in node.names}
                    self.assertNotIn("*", names, file)
                    self.assertTrue(node.module in modules or names <= LIBRARY.get(node.module, set()), file)

    def test_statements_and_expressions(self):
        for file, _, tree in parsed_files():
            for node in ast.walk(tree):
                if isinstance(node, (ast.stmt, ast.mod)):
                    self.assertIsInstance(node, STATEMENTS, file)
                elif isinstance(node, ast.expr):
                    self.assertIsInstance(node, EXPRESSIONS, file)
                if isinstance(node, ast.BinOp):
                    self.assertNotIsInstance(node.op, (ast.Div, ast.MatMult), file)

    def test_builtins_and_names(self):
        # Examples that were run before leave their last value behind under this name.
        known = set(dir(builtins)) - {"_"}
        for file, _, tree in parsed_files():
            for node in ast.walk(tree):
                if isinstance(node, ast.Name) and node.id in known:
                    self.assertIn(node.id, BUILTINS, f"{file}, line {node.lineno}")
            for name in bound_names(tree):
                self.assertNotIn(name, known, file)
                self.assertNotIn(name, WRONG_NAMES, file)
                if name not in SPECIAL_METHODS:
                    self.assertRegex(name, r"\A_?[A-Za-z][A-Za-z0-9_]*\Z|\A_\Z", file)

    def test_each_name_is_bound_once_in_a_file(self):
        for file, _, tree in parsed_files():
            names = []
            for node in tree.body:
                if isinstance(node, (ast.FunctionDef, ast.ClassDef)):
                    names.append(node.name)
                elif isinstance(node, ast.ImportFrom):
                    names.extend([alias.name for alias in node.names])
                elif isinstance(node, ast.Assign):
                    names.extend([target.id for target in node.targets])
                else:
                    self.assertIsInstance(node, ast.Expr, file)
            self.assertEqual(len(names), len(set(names)), file)

    def test_no_variable_has_the_name_of_an_import_or_a_class_of_its_file(self):
        for file, _, tree in parsed_files():
            fixed = set()
            for node in tree.body:
                if isinstance(node, ast.ImportFrom):
                    fixed.update([alias.name for alias in node.names])
                elif isinstance(node, ast.ClassDef):
                    fixed.add(node.name)
            for node in ast.walk(tree):
                if isinstance(node, ast.arg):
                    self.assertNotIn(node.arg, fixed, f"{file}, line {node.lineno}")
                elif isinstance(node, ast.Name) and isinstance(node.ctx, ast.Store):
                    self.assertNotIn(node.id, fixed, f"{file}, line {node.lineno}")

    def test_no_two_files_import_from_each_other(self):
        imported = {}
        for file, _, tree in parsed_files():
            imported["indoubt." + file[:-3]] = {node.module for node in tree.body if isinstance(node, ast.ImportFrom)}
        done = set()
        while len(done) < len(imported):
            free = {module for module, used in imported.items() if module not in done and used & set(imported) <= done}
            self.assertTrue(free, sorted(set(imported) - done))
            done |= free

    def test_methods(self):
        own = set()
        for file, _, tree in parsed_files():
            for node in ast.walk(tree):
                if isinstance(node, ast.ClassDef):
                    own.update([child.name for child in node.body if isinstance(child, ast.FunctionDef)])
        for file, _, tree in parsed_files():
            for node in ast.walk(tree):
                if isinstance(node, ast.Call) and isinstance(node.func, ast.Attribute):
                    self.assertIn(node.func.attr, METHODS | own, f"{file}, line {node.lineno}")

    def test_properties(self):
        properties = set()
        for file, _, tree in parsed_files():
            for node in ast.walk(tree):
                if isinstance(node, (ast.FunctionDef, ast.ClassDef)):
                    for decorator in node.decorator_list:
                        self.assertEqual(ast.unparse(decorator), "property", f"{file}, {node.name}")
                        properties.add(node.name)
        for file, _, tree in parsed_files():
            for node in ast.walk(tree):
                if isinstance(node, ast.Attribute) and isinstance(node.ctx, ast.Store):
                    self.assertNotIn(node.attr, properties, f"{file}, line {node.lineno}")

    def test_generator_expressions_and_sets(self):
        """Sets stand in sorted and len, and where one set is subtracted from another one."""
        for file, _, tree in parsed_files():
            taken = set()
            for node in ast.walk(tree):
                if isinstance(node, ast.Call) and isinstance(node.func, ast.Name):
                    if node.func.id in ("sorted", "len", "any", "all", "sum", "min", "max", "list", "tuple"):
                        taken.update(node.args)
            taken.update([side for node in taken if isinstance(node, ast.BinOp) for side in (node.left, node.right)])
            for node in ast.walk(tree):
                is_set = isinstance(node, ast.Call) and isinstance(node.func, ast.Name) and node.func.id == "set"
                if is_set or isinstance(node, (ast.Set, ast.SetComp, ast.GeneratorExp)):
                    self.assertIn(node, taken, f"{file}, line {node.lineno}")

    def test_words_and_strings(self):
        for file, _, tree in parsed_files():
            documented = docstrings_in(tree)
            for node in ast.walk(tree):
                if isinstance(node, ast.Constant) and isinstance(node.value, str):
                    self.assertNotIn("%", node.value, file)
                    if node not in documented:
                        self.assertNotRegex(node.value, WRONG_WORDS, file)
            for name in bound_names(tree):
                self.assertNotRegex(name, WRONG_WORDS, file)


if __name__ == "__main__":
    unittest.main()
