"""What a test can see of the part of Python that the package keeps to."""

import ast
import builtins
import pathlib
import re
import unittest

PACKAGE = pathlib.Path(__file__).resolve().parent.parent / "linecode"

OWN_OF_PYTHON = set("""
    len range enumerate zip min max sum abs sorted reversed int str bool list tuple dict set frozenset
    isinstance ord repr any all divmod Exception ValueError TypeError KeyError IndexError LookupError
    ZeroDivisionError ArithmeticError OverflowError RuntimeError NotImplementedError AttributeError
    StopIteration""".split())
METHODS = set("""
    append clear copy count endswith extend find get index insert isalnum isalpha isdigit islower isspace
    isupper items join keys ljust lower lstrip partition pop remove replace reverse rfind rjust rpartition
    rsplit rstrip setdefault split splitlines startswith strip update upper values zfill bit_length""".split())
WORDS = re.compile(r"\b(type|typing|typing_extensions|enum|Enum|IntEnum|StrEnum|Flag|IntFlag|Generic|Protocol"
                   r"|ABC|ABCMeta|namedtuple|NamedTuple|TypedDict|TYPE_CHECKING|abstractmethod)\b"
                   r"|dataclass|overload|contextmanager")
NOT_NAMES = set("""
    register mro elements open input version_info with_traceback add_note attrgetter breakpoint builtins
    compile copyright credits delattr dir eval exec exit gc getattr globals hasattr help id importlib license
    locals methodcaller os quit setattr super type vars sys chr format format_map print""".split())
NODES = set("""
    Module FunctionDef ClassDef Return Assign AugAssign For While If Raise Try ImportFrom Expr Pass Break
    Continue BoolOp BinOp UnaryOp Lambda IfExp Dict Set ListComp Compare Call FormattedValue JoinedStr Constant
    Attribute Subscript Name List Tuple Slice Load Store And Or Add Sub Mult FloorDiv Mod Pow LShift RShift
    BitOr BitXor BitAnd Invert Not USub UAdd Eq NotEq Lt LtE Gt GtE Is IsNot In NotIn comprehension
    ExceptHandler arguments arg alias keyword""".split())
WITH_TWO_UNDERSCORES = {"__init__", "__eq__", "__repr__", "__str__", "__len__"}


def sources():
    """Each file of the package with its text and its tree."""
    found = []
    for path in sorted(PACKAGE.glob("**/*.py")):
        text = path.read_text(encoding="utf-8")
        found.append((path, text, ast.parse(text)))
    return found


def defined(tree):
    """The names that stand at a file's top, but for what it imports."""
    names = []
    for node in tree.body:
        if isinstance(node, (ast.FunctionDef, ast.ClassDef)):
            names.append(node.name)
        if isinstance(node, ast.Assign):
            names.extend(target.id for target in node.targets)
    return names


def imports(tree):
    return [node for node in tree.body if isinstance(node, ast.ImportFrom)]


class Files(unittest.TestCase):
    def test_only_files_of_the_package_lie_in_it(self):
        names = [path.name for path in PACKAGE.iterdir() if path.name != "__pycache__"]
        self.assertIn("__init__.py", names)
        for name in names:
            self.assertRegex(name, r"\A([a-z][a-z0-9_]*|__init__)\.py\Z")

    def test_signs_and_sizes(self):
        for path, text, tree in sources():
            self.assertRegex(text, r"\A[ -~\n]*\Z", path)
            rows = text.split("\n")
            self.assertLessEqual(len(rows) - 1, 399, path)
            self.assertLessEqual(max(len(row) for row in rows), 120, path)
            for node in ast.walk(tree):
                if isinstance(node, ast.FunctionDef):
                    self.assertLessEqual(node.end_lineno - node.lineno + 1, 40, node.name)

    def test_words_that_are_not_used(self):
        for path, text, tree in sources():
            self.assertIsNone(WORDS.search(text), path)


class Code(unittest.TestCase):
    def test_kinds_of_statements_and_expressions(self):
        for path, text, tree in sources():
            for node in ast.walk(tree):
                self.assertIn(node.__class__.__name__, NODES, (path, getattr(node, "lineno", 0)))
                if isinstance(node, ast.Assign):
                    self.assertEqual(len(node.targets), 1)
                if isinstance(node, (ast.For, ast.While)):
                    self.assertEqual(node.orelse, [])
                if isinstance(node, ast.Try):
                    self.assertEqual(node.finalbody, [])
                if isinstance(node, ast.FunctionDef):
                    self.assertEqual(node.decorator_list, [])
                    self.assertIsNone(node.args.vararg or node.args.kwarg)
                if isinstance(node, ast.Constant):
                    self.assertIsInstance(node.value, (int, str, type(None)))

    def test_names(self):
        for path, text, tree in sources():
            known = set(defined(tree))
            for node in imports(tree):
                known.update(alias.name for alias in node.names)
            for node in ast.walk(tree):
                if isinstance(node, ast.arg):
                    self.plain(path, node.arg, known)
                if isinstance(node, ast.Name) and isinstance(node.ctx, ast.Store):
                    self.plain(path, node.id, known if node.id.islower() else ())
                if isinstance(node, ast.Name) and hasattr(builtins, node.id):
                    self.assertIn(node.id, OWN_OF_PYTHON, path)
                if isinstance(node, (ast.FunctionDef, ast.ClassDef)):
                    if node.name not in WITH_TWO_UNDERSCORES:
                        self.plain(path, node.name, ())

    def plain(self, path, name, taken):
        self.assertRegex(name, r"\A[A-Za-z][A-Za-z0-9_]*\Z", path)
        self.assertFalse(hasattr(builtins, name) or name in NOT_NAMES or name in taken, (path, name))

    def test_methods_and_values_of_objects(self):
        methods = set()
        values = set()
        for path, text, tree in sources():
            for node in ast.walk(tree):
                if isinstance(node, ast.ClassDef):
                    own = [part.name for part in node.body if isinstance(part, ast.FunctionDef)]
                    self.assertEqual(len(own), len(set(own)), node.name)
                    methods.update(own)
                if isinstance(node, ast.Attribute) and isinstance(node.ctx, ast.Store):
                    values.add(node.attr)
        self.assertEqual(methods & values, set())
        for path, text, tree in sources():
            for node in ast.walk(tree):
                if isinstance(node, ast.Attribute):
                    self.assertIn(node.attr, methods | values | METHODS, path)
        for name in (methods | values) - WITH_TWO_UNDERSCORES:
            self.assertNotIn(name, NOT_NAMES)
            self.assertFalse(any(hasattr(kind, name) for kind in (str, int, list, dict, set, bytes)), name)


class Imports(unittest.TestCase):
    def test_each_name_is_drawn_from_the_file_that_defines_it(self):
        tops = {"linecode." + path.stem: defined(tree) for path, text, tree in sources()}
        for path, text, tree in sources():
            for node in imports(tree):
                self.assertEqual(node.level, 0, path)
                for alias in node.names:
                    self.assertIsNone(alias.asname, path)
                    self.assertIn(alias.name, tops[node.module], path)

    def test_each_name_is_bound_once_at_a_file_s_top(self):
        for path, text, tree in sources():
            names = defined(tree) + [alias.name for node in imports(tree) for alias in node.names]
            self.assertEqual(len(names), len(set(names)), path)

    def test_no_two_files_draw_from_one_another(self):
        left = {path.stem: {node.module.split(".")[-1] for node in imports(tree)}
                for path, text, tree in sources()}
        while left:
            free = [name for name in left if not left[name] & set(left)]
            self.assertTrue(free, left)
            for name in free:
                del left[name]


if __name__ == "__main__":
    unittest.main()
