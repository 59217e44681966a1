"""Holds the package to the part of Python that it keeps to; so also to no clock, no chance and no file."""

import ast
import builtins
import pathlib
import re
import unittest

PACKAGE = pathlib.Path(__file__).resolve().parent.parent / "unison"

NODES = """
Module Expr Constant ImportFrom alias FunctionDef arguments arg ClassDef Pass Return Assign AugAssign If While For Break
Continue Raise Try ExceptHandler Call keyword Name Load Store Attribute Subscript Slice List Tuple Dict Set ListComp
comprehension BinOp UnaryOp BoolOp Compare IfExp Lambda JoinedStr FormattedValue Add Sub Mult FloorDiv Mod Pow BitAnd
BitOr BitXor LShift RShift Invert And Or Not USub UAdd Eq NotEq Lt LtE Gt GtE Is IsNot In NotIn
""".split()

PYTHONS_OWN = """
len range enumerate zip min max sum abs sorted reversed int str bool list tuple dict set frozenset isinstance ord repr
any all divmod Exception ValueError TypeError KeyError IndexError LookupError ZeroDivisionError ArithmeticError
OverflowError RuntimeError NotImplementedError AttributeError StopIteration
""".split()

METHODS = """
append clear copy count endswith extend find get index insert isalnum isalpha isdigit islower isspace isupper items join
keys ljust lower lstrip partition pop remove replace reverse rfind rjust rpartition rsplit rstrip setdefault split
splitlines startswith strip update upper values zfill bit_length
""".split()

WORDS = """
type typing typing_extensions enum Enum IntEnum StrEnum Flag IntFlag Generic Protocol ABC ABCMeta namedtuple NamedTuple
TypedDict TYPE_CHECKING abstractmethod
""".split()


def package_files():
    return sorted(path for path in PACKAGE.rglob("*") if "__pycache__" not in path.parts)


def trees():
    return [(path.name, ast.parse(path.read_text(encoding="utf-8"))) for path in package_files()]


def nodes(*kinds):
    return [(name, node) for name, tree in trees() for node in ast.walk(tree) if isinstance(node, kinds)]


def bound_at_the_top(tree):
    bound = []
    for node in tree.body:
        if isinstance(node, ast.ImportFrom):
            bound += [part.asname or part.name for part in node.names]
        elif isinstance(node, (ast.FunctionDef, ast.ClassDef)):
            bound.append(node.name)
        elif isinstance(node, ast.Assign):
            bound += [target.id for target in node.targets]
    return bound


def classes_and_imports(tree):
    return [
        called
        for node in tree.body
        if isinstance(node, (ast.ImportFrom, ast.ClassDef))
        for called in bound_at_the_top(ast.Module([node], []))
    ]


def drawn_from(module):
    tree = dict(trees())[module.split(".")[-1] + ".py"]
    return [node.module for node in tree.body if isinstance(node, ast.ImportFrom)]


def own_methods_and_values():
    methods = [part.name for name, node in nodes(ast.ClassDef) for part in node.body if isinstance(part, ast.FunctionDef)]
    values = [node.attr for name, node in nodes(ast.Attribute) if isinstance(node.ctx, ast.Store)]
    return methods + values


class Files(unittest.TestCase):
    def test_names(self):
        self.assertIn("__init__.py", [path.name for path in package_files()])
        for path in package_files():
            self.assertRegex(path.name, r"^([a-z][a-z0-9_]*|__init__)\.py$")

    def test_signs_sizes_and_words(self):
        for path in package_files():
            with self.subTest(file=path.name):
                text = path.read_bytes().decode("utf-8")
                self.assertRegex(text, r"\A[ -~\n]*\Z")
                rows = text.split("\n")
                self.assertLessEqual(len(rows), 401)
                self.assertLessEqual(max(len(row) for row in rows), 120)
                self.assertEqual(sorted(set(re.findall(r"\w+", text)) & set(WORDS)), [])
                self.assertNotRegex(text, "dataclass|overload|contextmanager")


class Code(unittest.TestCase):
    def test_kinds_of_node(self):
        for name, node in nodes(ast.AST):
            self.assertIn(type(node).__name__, NODES, (name, getattr(node, "lineno", 0)))

    def test_imports_are_the_packages_own(self):
        for name, tree in trees():
            for node in ast.walk(tree):
                if isinstance(node, ast.ImportFrom):
                    self.assertIn(node, tree.body, name)
                    self.assertEqual(node.level, 0, name)
                    self.assertRegex(node.module, r"^unison\.[a-z]", name)

    def test_no_two_files_draw_from_one_another(self):
        def walk(module, above):
            self.assertNotIn(module, above)
            for other in drawn_from(module):
                walk(other, above + [module])
        for name, tree in trees():
            if name != "__init__.py":
                walk("unison." + name[:-3], [])

    def test_names_come_from_the_file_that_defines_them(self):
        for name, node in nodes(ast.ImportFrom):
            tree = dict(trees())[node.module.split(".")[-1] + ".py"]
            defined = [part for part in bound_at_the_top(tree) if part not in
                       [alias.name for row in tree.body if isinstance(row, ast.ImportFrom) for alias in row.names]]
            for part in node.names:
                self.assertIn(part.name, defined, name)

    def test_each_name_is_bound_once_at_the_top(self):
        for name, tree in trees():
            bound = bound_at_the_top(tree)
            self.assertEqual(sorted(set(bound)), sorted(bound), name)

    def test_no_local_is_called_like_a_class_or_an_import(self):
        for name, tree in trees():
            taken = classes_and_imports(tree)
            for top in tree.body:
                if isinstance(top, (ast.FunctionDef, ast.ClassDef)):
                    for node in ast.walk(top):
                        if isinstance(node, ast.arg):
                            self.assertNotIn(node.arg, taken, (name, node.lineno))
                        if isinstance(node, ast.Name) and isinstance(node.ctx, ast.Store):
                            self.assertNotIn(node.id, taken, (name, node.lineno))

    def test_one_plain_target_in_an_assignment(self):
        for name, node in nodes(ast.Assign):
            self.assertEqual(len(node.targets), 1, (name, node.lineno))
            self.assertIsInstance(node.targets[0], (ast.Name, ast.Attribute, ast.Subscript), (name, node.lineno))

    def test_no_method_is_a_value_too(self):
        methods = [part.name for name, node in nodes(ast.ClassDef) for part in node.body
                   if isinstance(part, ast.FunctionDef)]
        values = [node.attr for name, node in nodes(ast.Attribute) if isinstance(node.ctx, ast.Store)]
        self.assertEqual(set(methods) & set(values), set())

    def test_functions_are_plain_and_short(self):
        for name, node in nodes(ast.FunctionDef):
            with self.subTest(file=name, function=node.name):
                self.assertLessEqual(node.end_lineno - node.lineno + 1, 40)
                self.assertEqual(node.decorator_list, [])
                self.assertEqual((node.args.vararg, node.args.kwarg, node.args.kwonlyargs), (None, None, []))

    def test_plain_values(self):
        for name, node in nodes(ast.Constant):
            self.assertIn(type(node.value), (int, str, bool, type(None)), (name, node.lineno))

    def test_pythons_own_names(self):
        for name, node in nodes(ast.Name):
            if hasattr(builtins, node.id):
                self.assertIn(node.id, PYTHONS_OWN, (name, node.lineno))
                self.assertIsInstance(node.ctx, ast.Load, (name, node.lineno))
        for name, node in nodes(ast.arg):
            self.assertFalse(hasattr(builtins, node.arg), (name, node.lineno))

    def test_methods_and_values(self):
        own = own_methods_and_values()
        for name, node in nodes(ast.Attribute):
            self.assertIn(node.attr, METHODS + own, (name, node.lineno))

    def test_no_name_begins_with_an_underscore(self):
        for name, node in nodes(ast.Name, ast.arg, ast.FunctionDef, ast.ClassDef):
            called = getattr(node, "id", None) or getattr(node, "arg", None) or getattr(node, "name", None)
            if called not in ("__init__", "__eq__", "__repr__", "__str__", "__len__"):
                self.assertRegex(called, r"^[A-Za-z]", (name, node.lineno))


if __name__ == "__main__":
    unittest.main()
