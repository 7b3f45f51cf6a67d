"""The package keeps to the small part of Python that's allowed: what of its rules a parser can see."""

import ast
import builtins
import pathlib
import re
import unittest

PACKAGE = pathlib.Path(__file__).resolve().parent.parent / "pensheets"

NODES = """
    Module Expr Constant Assign AugAssign FunctionDef ClassDef Return If While For Break Continue Pass Raise
    Try ExceptHandler arguments arg Lambda BinOp UnaryOp BoolOp Compare IfExp Call Attribute Subscript Slice
    List Tuple Dict ListComp comprehension JoinedStr FormattedValue Name Load Store ImportFrom alias keyword
    Add Sub Mult FloorDiv Mod Pow BitAnd BitOr BitXor LShift RShift Invert Not USub And Or
    Eq NotEq Lt LtE Gt GtE In NotIn Is IsNot
""".split()
OWN_OF_PYTHON = """
    len range enumerate zip min max sum abs sorted reversed int str bool list tuple dict set frozenset isinstance
    ord repr any all divmod Exception ValueError KeyError IndexError LookupError ZeroDivisionError
    ArithmeticError OverflowError RuntimeError NotImplementedError StopIteration
""".split()
METHODS = """
    append clear copy count endswith extend find get index insert isalnum isalpha isdigit islower isspace isupper
    items join keys ljust lower lstrip partition pop remove replace reverse rfind rjust rpartition rsplit rstrip
    setdefault split splitlines startswith strip update upper values zfill bit_length
""".split()
WORDS = """
    type typing typing_extensions enum Enum IntEnum StrEnum Flag IntFlag Generic Protocol ABC ABCMeta namedtuple
    NamedTuple TypedDict TYPE_CHECKING abstractmethod
""".split()
NOT_NAMES = """
    register mro elements open input version_info with_traceback add_note attrgetter breakpoint compile copyright
    credits delattr dir eval exec exit gc getattr globals hasattr help id importlib license locals methodcaller os
    quit setattr super vars sys format format_map
""".split()


def files():
    return sorted(PACKAGE.rglob("*.py"))


def trees():
    return [(path, ast.parse(path.read_text("ascii"))) for path in files()]


def nodes(kind):
    for path, tree in trees():
        for node in ast.walk(tree):
            if isinstance(node, kind):
                yield path, node


def defined_in(tree):
    names = [node.name for node in tree.body if isinstance(node, (ast.FunctionDef, ast.ClassDef))]
    return names + [node.targets[0].id for node in tree.body if isinstance(node, ast.Assign)]


class Language(unittest.TestCase):

    def test_files(self):
        self.assertIn(PACKAGE / "__init__.py", files())
        for path in PACKAGE.rglob("*"):
            if "__pycache__" not in path.parts:
                self.assertRegex(path.name, r"^[a-z0-9_]+\.py$")

    def test_signs_words_and_lengths(self):
        for path in files():
            text = path.read_bytes().decode("ascii")
            self.assertRegex(text, r"\A[ -~\n]*\Z")
            self.assertLessEqual(text.count("\n"), 400)
            self.assertLessEqual(max(len(line) for line in text.split("\n")), 120)
            self.assertEqual([word for word in WORDS if re.search(rf"\b{word}\b", text)], [])
            self.assertIsNone(re.search("dataclass|overload|contextmanager", text))

    def test_statements_and_expressions(self):
        for path, node in nodes(ast.AST):
            self.assertIn(node.__class__.__name__, NODES, (path.name, getattr(node, "lineno", 0)))

    def test_a_text_by_itself_stands_only_at_a_files_top(self):
        for path, tree in trees():
            for node in ast.walk(tree):
                if isinstance(node, ast.Expr) and node is not tree.body[0]:
                    self.assertIsInstance(node.value, ast.Call, (path.name, node.lineno))

    def test_one_target(self):
        for path, node in nodes(ast.Assign):
            self.assertEqual(len(node.targets), 1)
            self.assertNotIsInstance(node.targets[0], ast.Tuple, (path.name, node.lineno))

    def test_constants(self):
        for path, node in nodes(ast.Constant):
            self.assertIn(node.value.__class__, (int, str, bool, None.__class__), (path.name, node.lineno))
            if isinstance(node.value, str):
                self.assertNotIn("%", node.value)

    def test_functions(self):
        for path, node in nodes(ast.FunctionDef):
            self.assertLessEqual(node.end_lineno - node.lineno + 1, 40, node.name)
            told = node.args
            self.assertFalse(node.decorator_list or told.vararg or told.kwarg or told.kwonlyargs or told.posonlyargs)

    def test_classes(self):
        for path, node in nodes(ast.ClassDef):
            self.assertFalse(node.decorator_list or node.keywords)
            self.assertLessEqual(len(node.bases), 1)
            for part in node.body:
                self.assertIsInstance(part, (ast.FunctionDef, ast.Pass), node.name)

    def test_imports_are_the_packages_own(self):
        for path, node in nodes(ast.ImportFrom):
            self.assertEqual(node.level, 0)
            self.assertRegex(node.module, r"^pensheets\.[a-z]+$")
            source = ast.parse((PACKAGE / f"{node.module[10:]}.py").read_text("ascii"))
            for drawn in node.names:
                self.assertIn(drawn.name, defined_in(source), (path.name, node.lineno))
                self.assertIsNone(drawn.asname)

    def test_imports_stand_at_the_top(self):
        for path, tree in trees():
            rows = [node for node in tree.body if isinstance(node, ast.ImportFrom)]
            self.assertEqual(tree.body[1:1 + len(rows)], rows, path.name)
            self.assertEqual(len(rows), sum(isinstance(node, ast.ImportFrom) for node in ast.walk(tree)), path.name)

    def test_no_two_files_draw_from_one_another(self):
        drawn = {path.stem: {node.module[10:] for node in tree.body if isinstance(node, ast.ImportFrom)}
                 for path, tree in trees()}
        while drawn:
            last = [name for name in drawn if not drawn[name] & set(drawn)]
            self.assertNotEqual(last, [], drawn)
            for name in last:
                del drawn[name]

    def test_nothing_is_called_like_a_class_or_an_import_of_its_file(self):
        for path, tree in trees():
            taken = {drawn.name for node in tree.body if isinstance(node, ast.ImportFrom) for drawn in node.names}
            taken |= {node.name for node in tree.body if isinstance(node, ast.ClassDef)}
            for node in ast.walk(tree):
                if isinstance(node, ast.arg):
                    self.assertNotIn(node.arg, taken, (path.name, node.lineno))
                if isinstance(node, ast.Name) and isinstance(node.ctx, ast.Store):
                    self.assertNotIn(node.id, taken, (path.name, node.lineno))

    def test_names(self):
        bound = set()
        for path, node in nodes((ast.FunctionDef, ast.ClassDef)):
            bound.add(node.name)
        for path, node in nodes(ast.arg):
            bound.add(node.arg)
        for path, node in nodes(ast.Name):
            if isinstance(node.ctx, ast.Store):
                bound.add(node.id)
            elif hasattr(builtins, node.id):
                self.assertIn(node.id, OWN_OF_PYTHON, (path.name, node.lineno))
        for name in bound - {"__init__"}:
            self.assertRegex(name, "^[A-Za-z][A-Za-z0-9_]*$")
            self.assertFalse(hasattr(builtins, name), name)
            self.assertNotIn(name, NOT_NAMES)

    def test_top_names_are_bound_once_to_plain_values(self):
        for path, tree in trees():
            names = []
            for node in tree.body:
                if isinstance(node, (ast.FunctionDef, ast.ClassDef)):
                    names.append(node.name)
                elif isinstance(node, ast.Assign):
                    names.append(node.targets[0].id)
                    ast.literal_eval(node.value)
            self.assertEqual(len(names), len(set(names)), path.name)

    def test_methods(self):
        own = {node.name for path, node in nodes(ast.FunctionDef)}
        stored = {node.attr for path, node in nodes(ast.Attribute) if isinstance(node.ctx, ast.Store)}
        for path, node in nodes(ast.Call):
            if isinstance(node.func, ast.Attribute):
                self.assertIn(node.func.attr, own | set(METHODS), (path.name, node.lineno))
        in_classes = {part.name for path, node in nodes(ast.ClassDef) for part in node.body
                      if isinstance(part, ast.FunctionDef)}
        self.assertEqual(stored & in_classes, set())
        taken = {name for kind in (str, int, list, dict, set, bytes) for name in vars(kind)}
        self.assertEqual((stored | in_classes) & taken - {"__init__"}, set())


if __name__ == "__main__":
    unittest.main()
