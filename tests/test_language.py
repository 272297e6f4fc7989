"""The rules of the language that can be seen in the package's files."""

import ast
import builtins
import pathlib
import re
import unittest

PACKAGE = pathlib.Path(__file__).resolve().parent.parent / "wordrunnerdesk"

# L6 and L7: what may stand in a file.
NODES = """
Module Expr FunctionDef ClassDef arguments arg Return Assign AugAssign For While If Raise Try ExceptHandler
Break Continue Pass Call Name Attribute Subscript Slice Constant List Tuple Dict Set ListComp comprehension
BinOp UnaryOp BoolOp Compare IfExp JoinedStr FormattedValue Lambda keyword ImportFrom alias Load Store
Add Sub Mult FloorDiv Mod Pow BitAnd BitOr BitXor LShift RShift And Or Not Invert USub UAdd
Eq NotEq Lt LtE Gt GtE Is IsNot In NotIn
""".split()

# L8
BUILT_IN = """
len range enumerate zip min max sum abs sorted reversed int str bool list tuple dict set frozenset isinstance
ord repr any all divmod Exception ValueError TypeError KeyError IndexError LookupError ZeroDivisionError
ArithmeticError OverflowError RuntimeError NotImplementedError AttributeError StopIteration
""".split()

# L25
METHODS = """
append clear copy count endswith extend find get index insert isalnum isalpha isdigit islower isspace isupper
items join keys ljust lower lstrip partition pop remove replace reverse rfind rjust rpartition rsplit rstrip
setdefault split splitlines startswith strip update upper values zfill bit_length
""".split()

# L5
DOUBLE_UNDERSCORE = "__init__ __eq__ __repr__ __str__ __len__".split()

# L17
NO_NAMES = """
register mro elements open input version_info with_traceback add_note attrgetter breakpoint builtins compile
copyright credits delattr dir eval exec exit gc getattr globals hasattr help id importlib license locals
methodcaller os quit setattr super type vars sys format format_map
""".split()
NO_WORDS = """
type typing typing_extensions enum Enum IntEnum StrEnum Flag IntFlag Generic Protocol ABC ABCMeta namedtuple
NamedTuple TypedDict TYPE_CHECKING abstractmethod
""".split()


def package_files():
    return [path for path in sorted(PACKAGE.rglob("*")) if "__pycache__" not in path.parts]


def bound_names(tree):
    """Every name that a file binds, by whatever way."""
    names = []
    for node in ast.walk(tree):
        if isinstance(node, (ast.FunctionDef, ast.ClassDef)):
            names.append(node.name)
        elif isinstance(node, ast.arg):
            names.append(node.arg)
        elif isinstance(node, ast.Name) and isinstance(node.ctx, ast.Store):
            names.append(node.id)
        elif isinstance(node, ast.alias):
            names.append(node.asname or node.name)
    return names


def is_plain(value, functions):
    """Whether a value may stand at a file's top."""
    if isinstance(value, ast.UnaryOp):
        return isinstance(value.op, ast.USub) and isinstance(value.operand, ast.Constant)
    if isinstance(value, ast.Name):
        return value.id in functions
    if isinstance(value, (ast.List, ast.Tuple)):
        return all(is_plain(part, functions) for part in value.elts)
    if isinstance(value, ast.Dict):
        return all(is_plain(part, functions) for part in value.keys + value.values)
    return isinstance(value, ast.Constant)


class LanguageTest(unittest.TestCase):
    def each_file(self):
        for path in package_files():
            text = path.read_text(encoding="utf-8")
            yield path, text, ast.parse(text)

    def each_node(self, kind):
        for path, text, tree in self.each_file():
            for node in ast.walk(tree):
                if isinstance(node, kind):
                    yield node

    def test_files(self):
        self.assertIn(PACKAGE / "__init__.py", package_files())
        for path in package_files():
            self.assertRegex(path.name, r"^([a-z][a-z0-9_]*|__init__)\.py$")
            self.assertNotIn(path.stem, dir(builtins))

    def test_signs_and_size(self):
        for path, text, tree in self.each_file():
            self.assertRegex(text, r"\A[ -~\n]*\Z")
            self.assertLessEqual(len(text.splitlines()), 400)
            self.assertLessEqual(max(len(line) for line in text.splitlines()), 120)

    def test_words(self):
        for path, text, tree in self.each_file():
            self.assertEqual([word for word in re.findall(r"\w+", text) if word in NO_WORDS], [])
            self.assertNotRegex(text, "dataclass|overload|contextmanager")

    def test_statements_and_expressions(self):
        for node in self.each_node(ast.AST):
            self.assertIn(type(node).__name__, NODES)

    def test_constants(self):
        for node in self.each_node(ast.Constant):
            self.assertIn(type(node.value), (int, str, bool, type(None)))
            if isinstance(node.value, str):
                self.assertNotIn("%", node.value)

    def test_functions(self):
        for node in self.each_node(ast.FunctionDef):
            self.assertLessEqual(node.end_lineno - node.lineno + 1, 40)
            self.assertEqual(node.decorator_list, [])
            given = node.args
            self.assertEqual((given.vararg, given.kwarg, given.kwonlyargs, given.posonlyargs), (None, None, [], []))

    def test_classes(self):
        for node in self.each_node(ast.ClassDef):
            self.assertEqual((node.decorator_list, node.keywords), ([], []))
            self.assertLessEqual(len(node.bases), 1)
            for part in node.body:
                self.assertIsInstance(part, (ast.FunctionDef, ast.Expr))

    def test_loops_and_targets(self):
        for node in self.each_node((ast.For, ast.While)):
            self.assertEqual(node.orelse, [])
        for node in self.each_node(ast.Assign):
            self.assertEqual(len(node.targets), 1)
        for node in self.each_node(ast.Try):
            self.assertEqual(node.finalbody, [])

    def test_imports(self):
        for node in self.each_node(ast.ImportFrom):
            self.assertEqual(node.level, 0)
            self.assertTrue(node.module.startswith("wordrunnerdesk."))
            self.assertNotIn("*", [part.name for part in node.names])

    def test_names(self):
        for path, text, tree in self.each_file():
            bound = bound_names(tree)
            for name in bound:
                if name not in DOUBLE_UNDERSCORE:
                    self.assertRegex(name, r"^[A-Za-z]\w*$")
                self.assertNotIn(name, NO_NAMES)
                self.assertNotIn(name, dir(builtins))
            for node in ast.walk(tree):
                if isinstance(node, ast.Name):
                    self.assertIn(node.id, bound + BUILT_IN)

    def test_methods_and_values(self):
        own = []
        for node in self.each_node(ast.ClassDef):
            own += [part.name for part in node.body if isinstance(part, ast.FunctionDef)]
        stored = [node.attr for node in self.each_node(ast.Attribute) if isinstance(node.ctx, ast.Store)]
        self.assertEqual([name for name in stored if name in own], [])
        for node in self.each_node(ast.Attribute):
            self.assertNotIn(node.attr, NO_NAMES)
            self.assertIn(node.attr, own + stored + METHODS)

    def test_the_top_of_a_file(self):
        for path, text, tree in self.each_file():
            functions = [node.name for node in tree.body if isinstance(node, ast.FunctionDef)]
            for node in tree.body:
                self.assertIsInstance(node, (ast.Expr, ast.ImportFrom, ast.FunctionDef, ast.ClassDef, ast.Assign))
                if isinstance(node, ast.Expr):
                    self.assertIsInstance(node.value, ast.Constant)
                if isinstance(node, ast.Assign):
                    self.assertTrue(is_plain(node.value, functions), ast.unparse(node))

    def test_names_at_the_top_are_bound_once(self):
        for path, text, tree in self.each_file():
            names = []
            for node in tree.body:
                names += bound_names(node) if isinstance(node, (ast.Assign, ast.ImportFrom)) else []
                names += [node.name] if isinstance(node, (ast.FunctionDef, ast.ClassDef)) else []
            self.assertEqual(sorted(names), sorted(set(names)))

    def test_imports_come_from_the_file_that_defines_the_name(self):
        drawn = {}
        for path, text, tree in self.each_file():
            drawn[path.stem] = []
            for node in tree.body:
                if isinstance(node, ast.ImportFrom):
                    source = node.module.split(".")[1]
                    drawn[path.stem].append(source)
                    defined = ast.parse((PACKAGE / (source + ".py")).read_text(encoding="utf-8"))
                    own = [name for part in defined.body if not isinstance(part, ast.ImportFrom)
                           for name in bound_names(part)]
                    for part in node.names:
                        self.assertIn(part.name, own)
                        self.assertIsNone(part.asname)
        # No two files draw from one another: those that draw from none that is left go, until all are gone.
        while drawn:
            free = [name for name, sources in drawn.items() if not any(source in drawn for source in sources)]
            self.assertNotEqual(free, [])
            for name in free:
                drawn.pop(name)

    def test_no_local_is_called_like_an_import_or_a_class(self):
        for path, text, tree in self.each_file():
            taken = [part.name for node in tree.body if isinstance(node, ast.ImportFrom) for part in node.names]
            taken += [node.name for node in tree.body if isinstance(node, (ast.ClassDef, ast.FunctionDef))]
            for node in ast.walk(tree):
                if isinstance(node, ast.arg):
                    self.assertNotIn(node.arg, taken)
                elif isinstance(node, ast.Name) and isinstance(node.ctx, ast.Store):
                    self.assertNotIn(node.id, taken)

    def test_every_import_is_used(self):
        for path, text, tree in self.each_file():
            used = [node.id for node in ast.walk(tree) if isinstance(node, ast.Name)]
            for node in tree.body:
                if isinstance(node, ast.ImportFrom):
                    for part in node.names:
                        self.assertIn(part.name, used)


if __name__ == "__main__":
    unittest.main()
