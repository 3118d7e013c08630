"""The package keeps to its part of Python: the rules that can be read off the files."""

import ast
import builtins
import pathlib
import re
import unittest

PACKAGE = pathlib.Path(__file__).resolve().parent.parent / "standtogetherdesk"

NODES = """
Module FunctionDef ClassDef Return Assign AugAssign For While If Raise Try ExceptHandler Import ImportFrom Expr
Pass Break Continue BoolOp BinOp UnaryOp Lambda IfExp Dict Set ListComp comprehension Compare Call Constant
Attribute Subscript Name List Tuple Slice JoinedStr FormattedValue Load Store And Or Add Sub Mult FloorDiv Mod Pow
LShift RShift BitOr BitXor BitAnd Invert Not UAdd USub Eq NotEq Lt LtE Gt GtE Is IsNot In NotIn arguments arg
keyword alias
""".split()

BUILTINS = """
len range enumerate zip min max sum abs sorted reversed int str bool list tuple dict set frozenset isinstance ord
repr any all divmod Exception ValueError TypeError KeyError IndexError LookupError ZeroDivisionError
ArithmeticError OverflowError RuntimeError NotImplementedError AttributeError StopIteration
""".split()

METHODS = """
append clear copy count endswith extend find get index insert isalnum isalpha isdigit islower isspace isupper items
join keys ljust lower lstrip partition pop remove replace reverse rfind rjust rpartition rsplit rstrip setdefault
split splitlines startswith strip update upper values zfill bit_length
""".split()

BANNED_WORDS = """
type typing typing_extensions enum Enum IntEnum StrEnum Flag IntFlag Generic Protocol ABC ABCMeta namedtuple
NamedTuple TypedDict TYPE_CHECKING abstractmethod
""".split()

BANNED_NAMES = """
register mro elements open input version_info with_traceback add_note attrgetter breakpoint builtins compile
copyright credits delattr dir eval exec exit gc getattr globals hasattr help id importlib license locals
methodcaller os quit setattr super vars sys print chr
""".split()


def files():
    return sorted(PACKAGE.rglob("*.py"))


def nodes(wanted):
    for file in files():
        for node in ast.walk(ast.parse(file.read_text("ascii"))):
            if isinstance(node, wanted):
                yield file.name, node


def bound_names():
    for name, node in nodes((ast.Name, ast.arg, ast.FunctionDef, ast.ClassDef)):
        if isinstance(node, ast.Name) and isinstance(node.ctx, ast.Store):
            yield name, node.id
        elif isinstance(node, ast.arg):
            yield name, node.arg
        elif isinstance(node, (ast.FunctionDef, ast.ClassDef)):
            yield name, node.name


def drawn_from():
    """For each file, the files it draws from, with the names it draws."""
    found = {file.name: [] for file in files()}
    for name, node in nodes(ast.ImportFrom):
        found[name].append((node.module.split(".")[-1] + ".py", [alias.name for alias in node.names]))
    return found


def defined_in(file):
    found = set()
    for node in ast.parse((PACKAGE / file).read_text("ascii")).body:
        if isinstance(node, (ast.FunctionDef, ast.ClassDef)):
            found.add(node.name)
        elif isinstance(node, ast.Assign):
            found.add(node.targets[0].id)
    return found


def own_methods():
    return {
        part.name
        for name, node in nodes(ast.ClassDef)
        for part in node.body
        if isinstance(part, ast.FunctionDef)
    }


def own_values():
    return {node.attr for name, node in nodes(ast.Attribute) if isinstance(node.ctx, ast.Store)}


class Files(unittest.TestCase):
    def test_only_modules_with_plain_names(self):
        for path in PACKAGE.rglob("*"):
            if "__pycache__" not in path.parts:
                self.assertRegex(path.name, r"^([a-z][a-z0-9_]*|__init__|__main__)\.py$")
        self.assertTrue((PACKAGE / "__init__.py").is_file())

    def test_signs_and_sizes(self):
        for file in files():
            lines = file.read_bytes().decode("ascii").split("\n")
            self.assertLessEqual(len(lines), 400, file)
            for line in lines:
                self.assertRegex(line, r"^[ -~]{0,120}$", file)

    def test_functions_have_at_most_40_lines(self):
        for name, node in nodes(ast.FunctionDef):
            self.assertLessEqual(node.end_lineno - node.lineno + 1, 40, (name, node.name))

    def test_words_that_stand_nowhere(self):
        for file in files():
            text = file.read_text("ascii")
            self.assertFalse(set(re.findall(r"\w+", text)) & set(BANNED_WORDS), file)
            self.assertNotRegex(text, "dataclass|overload|contextmanager")


class Forms(unittest.TestCase):
    def test_only_forms_that_are_listed(self):
        for name, node in nodes(ast.AST):
            self.assertIn(node.__class__.__name__, NODES, (name, getattr(node, "lineno", 0)))

    def test_imports(self):
        for name, node in nodes((ast.Import, ast.ImportFrom)):
            self.assertIsInstance(node, ast.ImportFrom, name)
            self.assertRegex(node.module, r"^standtogetherdesk\.\w+$", name)

    def test_names_are_drawn_from_where_they_are_defined(self):
        for name, drawn in drawn_from().items():
            for other, taken in drawn:
                self.assertLessEqual(set(taken), defined_in(other), name)

    def test_no_two_files_draw_from_one_another(self):
        left = {name: {other for other, taken in drawn} for name, drawn in drawn_from().items()}
        while left:
            ends = [name for name in left if not left[name] & set(left)]
            self.assertTrue(ends, left)
            for name in ends:
                left.pop(name)

    def test_is_stands_beside_none_true_and_false(self):
        for name, node in nodes(ast.Compare):
            for operator, right in zip(node.ops, node.comparators):
                if isinstance(operator, (ast.Is, ast.IsNot)):
                    self.assertIn(ast.unparse(right), ("None", "True", "False"), (name, node.lineno))

    def test_bases_are_the_packages_own(self):
        classes = {node.name for name, node in nodes(ast.ClassDef)}
        for name, node in nodes(ast.ClassDef):
            self.assertLessEqual(len(node.bases), 1, node.name)
            self.assertLessEqual({ast.unparse(base) for base in node.bases}, classes, node.name)

    def test_plain_functions(self):
        for name, node in nodes(ast.FunctionDef):
            given = node.args
            self.assertFalse(given.vararg or given.kwarg or given.kwonlyargs or given.posonlyargs, node.name)
            self.assertFalse(node.decorator_list, node.name)

    def test_one_target(self):
        for name, node in nodes(ast.Assign):
            self.assertEqual(len(node.targets), 1, (name, node.lineno))
            self.assertNotIsInstance(node.targets[0], (ast.Tuple, ast.List), (name, node.lineno))

    def test_no_else_behind_a_loop(self):
        for name, node in nodes((ast.For, ast.While)):
            self.assertFalse(node.orelse, (name, node.lineno))

    def test_plain_values(self):
        for name, node in nodes(ast.Constant):
            self.assertIn(node.value.__class__, (int, str, bool, None.__class__), (name, node.lineno))

    def test_comprehensions(self):
        for name, node in nodes(ast.ListComp):
            self.assertEqual(len(node.generators), 1, (name, node.lineno))
            self.assertLessEqual(len(node.generators[0].ifs), 1, (name, node.lineno))

    def test_powers_are_written(self):
        for name, node in nodes(ast.BinOp):
            if isinstance(node.op, ast.Pow):
                self.assertIsInstance(node.right, ast.Constant, (name, node.lineno))


class Names(unittest.TestCase):
    def test_bound_names(self):
        for file, name in bound_names():
            if name not in ("__init__", "__eq__", "__repr__", "__str__", "__len__"):
                self.assertRegex(name, r"^[A-Za-z][A-Za-z0-9_]*$", file)
            self.assertFalse(hasattr(builtins, name) and name not in own_methods(), (file, name))

    def test_no_local_is_called_like_an_import_or_a_class(self):
        drawn = {name: {one for other, taken in rows for one in taken} for name, rows in drawn_from().items()}
        classes = {node.name for name, node in nodes(ast.ClassDef)}
        for file, node in nodes((ast.Name, ast.arg)):
            if isinstance(node, ast.arg) or isinstance(node.ctx, ast.Store):
                bound = node.arg if isinstance(node, ast.arg) else node.id
                self.assertNotIn(bound, drawn[file] | classes, (file, node.lineno))

    def test_names_of_pythons_own(self):
        for file, node in nodes(ast.Name):
            self.assertNotIn(node.id, BANNED_NAMES, (file, node.lineno))
            if hasattr(builtins, node.id):
                self.assertIn(node.id, BUILTINS, (file, node.lineno))

    def test_methods(self):
        known = set(METHODS) | own_methods() | own_values()
        for file, node in nodes(ast.Attribute):
            self.assertIn(node.attr, known, (file, node.lineno))
            self.assertNotIn(node.attr, BANNED_NAMES, (file, node.lineno))

    def test_no_name_is_a_method_and_a_value(self):
        self.assertFalse(own_methods() & own_values())

    def test_own_names_are_free(self):
        taken = {name for kind in (str, int, list, dict, set, bytes, tuple) for name in dir(kind)}
        own = {name for name in own_methods() if not name.startswith("__")} | own_values()
        self.assertFalse(own & taken)


if __name__ == "__main__":
    unittest.main()
