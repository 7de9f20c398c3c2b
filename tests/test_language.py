"""The form of the package's own files: the rules of the language that can be seen row by row."""

import ast
import re
import unittest
from pathlib import Path

from loopleaps import leaps

PACKAGE = Path(leaps.__file__).resolve().parent

STATEMENTS = (ast.Assign, ast.AugAssign, ast.If, ast.While, ast.For, ast.Return, ast.Break, ast.Continue, ast.Pass,
              ast.Raise, ast.Try, ast.Expr, ast.FunctionDef, ast.ClassDef, ast.ImportFrom)
EXPRESSIONS = (ast.Constant, ast.Name, ast.List, ast.Tuple, ast.Dict, ast.BinOp, ast.UnaryOp, ast.BoolOp, ast.Compare,
               ast.IfExp, ast.Call, ast.Attribute, ast.Subscript, ast.Slice, ast.ListComp, ast.JoinedStr,
               ast.FormattedValue, ast.Lambda)
BUILTINS = ("len range enumerate zip min max sum abs sorted reversed int str bool list tuple dict set frozenset "
            "isinstance ord repr any all divmod Exception ValueError KeyError IndexError LookupError "
            "ZeroDivisionError StopIteration NotImplementedError").split()
WORDS = ("type typing typing_extensions enum Enum IntEnum StrEnum Flag IntFlag Generic Protocol ABC ABCMeta namedtuple "
         "NamedTuple TypedDict TYPE_CHECKING abstractmethod").split()
WITHIN_WORDS = ("dataclass", "overload", "contextmanager")
NOT_NAMES = ("register mro elements open input version_info with_traceback add_note attrgetter breakpoint builtins "
             "compile copyright credits delattr dir eval exec exit gc getattr globals hasattr help id importlib license "
             "locals methodcaller os quit setattr super vars sys next map filter hash iter print object").split()
NOT_VALUES = ("items keys values pop update append clear extend insert remove reverse setdefault sort args encode "
              "format").split()
METHODS = ("append clear copy count endswith extend find get index insert isalnum isalpha isdigit islower isspace "
           "isupper items join keys ljust lower lstrip partition pop remove replace reverse rfind rjust rpartition "
           "rsplit rstrip setdefault split splitlines startswith strip update upper values zfill bit_length").split()


def files():
    return sorted(path for path in PACKAGE.rglob("*") if "__pycache__" not in path.parts)


def trees():
    return [(path.name, ast.parse(path.read_text())) for path in files()]


def own_defs(tree):
    return [node for node in ast.walk(tree) if isinstance(node, (ast.FunctionDef, ast.ClassDef))]


def imported(tree):
    return [alias.name for node in tree.body if isinstance(node, ast.ImportFrom) for alias in node.names]


def bound(tree):
    """All parameters and locals, and the names of the file's top."""
    names = [node.id for node in ast.walk(tree) if isinstance(node, ast.Name) and isinstance(node.ctx, ast.Store)]
    return names + [node.arg for node in ast.walk(tree) if isinstance(node, ast.arg)]


class Files(unittest.TestCase):
    def test_plain_files_alone(self):
        for path in files():
            self.assertRegex(path.name, r"^(__init__|[a-z][a-z0-9_]*)\.py$")
            self.assertEqual(path.parent, PACKAGE)

    def test_sizes_and_signs(self):
        for path in files():
            text = path.read_text()
            rows = text.split("\n")
            self.assertLessEqual(len(rows), 399, path)
            self.assertLessEqual(max(len(row) for row in rows), 120, path)
            self.assertRegex(text, r"^[ -~\n]*\Z", path)

    def test_words(self):
        for path in files():
            words = re.findall(r"\w+", path.read_text())
            self.assertEqual([word for word in words if word in WORDS], [])
            self.assertEqual([word for word in words if any(part in word for part in WITHIN_WORDS)], [])


class Tops(unittest.TestCase):
    def test_docstring_then_imports_defs_and_plain_values(self):
        for name, tree in trees():
            self.assertTrue(ast.get_docstring(tree), name)
            for node in tree.body[1:]:
                self.assertIsInstance(node, (ast.ImportFrom, ast.FunctionDef, ast.ClassDef, ast.Assign), name)
                if isinstance(node, ast.Assign):
                    ast.literal_eval(node.value)

    def test_imports_are_from_the_file_that_defines_the_name(self):
        defined = {name[:-3]: [node.name for node in own_defs(tree)] + bound(tree) for name, tree in trees()}
        for name, tree in trees():
            for node in ast.walk(tree):
                self.assertNotIsInstance(node, ast.Import)
                if isinstance(node, ast.ImportFrom):
                    self.assertEqual(node.level, 0)
                    package, module = node.module.split(".")
                    self.assertEqual(package, "loopleaps")
                    for alias in node.names:
                        self.assertIsNone(alias.asname)
                        self.assertIn(alias.name, defined[module])

    def test_no_two_files_draw_from_one_another(self):
        draws = {name[:-3]: {node.module.split(".")[1] for node in tree.body if isinstance(node, ast.ImportFrom)}
                 for name, tree in trees()}
        while draws:
            free = [name for name in draws if not draws[name] & set(draws)]
            self.assertTrue(free, draws)
            for name in free:
                del draws[name]

    def test_names_are_bound_once(self):
        for name, tree in trees():
            names = [node.name for node in tree.body if isinstance(node, (ast.FunctionDef, ast.ClassDef))]
            names += [node.targets[0].id for node in tree.body if isinstance(node, ast.Assign)] + imported(tree)
            self.assertEqual(len(names), len(set(names)), name)

    def test_interface_is_a_plain_def(self):
        for name, tree in trees():
            found = [node for node in tree.body if isinstance(node, ast.FunctionDef) and node.name == "answers"]
            self.assertEqual(len(found), 1 if name == "leaps.py" else 0)
            for node in found:
                self.assertEqual([arg.arg for arg in node.args.args], ["calls"])


class Insides(unittest.TestCase):
    def test_statements_and_expressions(self):
        for name, tree in trees():
            for node in ast.walk(tree):
                if isinstance(node, ast.stmt):
                    self.assertIsInstance(node, STATEMENTS, name)
                if isinstance(node, ast.expr):
                    self.assertIsInstance(node, EXPRESSIONS, name)
                self.assertNotIsInstance(node, ast.Div, name)
                self.assertNotIsInstance(getattr(node, "value", None), (float, bytes, complex))

    def test_narrower_forms(self):
        for name, tree in trees():
            for node in ast.walk(tree):
                if isinstance(node, (ast.For, ast.While)):
                    self.assertEqual(node.orelse, [])
                if isinstance(node, ast.Try):
                    self.assertEqual(node.finalbody, [])
                if isinstance(node, ast.Assign):
                    self.assertEqual(len(node.targets), 1)
                if isinstance(node, ast.Expr):
                    self.assertIsInstance(node.value, (ast.Call, ast.Constant))
                if isinstance(node, ast.ListComp):
                    self.assertEqual(len(node.generators), 1)
                    self.assertLessEqual(len(node.generators[0].ifs), 1)
                if isinstance(node, ast.Compare) and isinstance(node.ops[0], (ast.Is, ast.IsNot)):
                    self.assertIsInstance(node.comparators[0], ast.Constant)

    def test_defs(self):
        for name, tree in trees():
            for node in own_defs(tree):
                self.assertEqual(node.decorator_list, [])
                self.assertTrue(ast.get_docstring(node) or node.name == "__init__", node.name)
                if isinstance(node, ast.FunctionDef):
                    self.assertLessEqual(node.end_lineno - node.lineno + 1, 40, node.name)
                    self.assertIsNone(node.args.vararg or node.args.kwarg)
                    self.assertEqual(node.args.kwonlyargs + node.args.posonlyargs + node.args.defaults, [])

    def test_names(self):
        for name, tree in trees():
            classes = [node.name for node in own_defs(tree) if isinstance(node, ast.ClassDef)]
            for word in bound(tree):
                self.assertRegex(word, r"^[A-Za-z][A-Za-z0-9_]*$")
                self.assertNotIn(word, classes + imported(tree) + BUILTINS + NOT_NAMES, name)

    def test_names_of_pythons_own(self):
        for name, tree in trees():
            known = bound(tree) + [node.name for node in own_defs(tree)] + imported(tree) + BUILTINS
            for node in ast.walk(tree):
                if isinstance(node, ast.Name):
                    self.assertIn(node.id, known, name)

    def test_methods_and_values(self):
        methods = {node.name for name, tree in trees() for top in tree.body if isinstance(top, ast.ClassDef)
                   for node in top.body if isinstance(node, ast.FunctionDef)}
        for name, tree in trees():
            called = [node.func for node in ast.walk(tree) if isinstance(node, ast.Call)]
            for node in ast.walk(tree):
                if not isinstance(node, ast.Attribute):
                    continue
                self.assertNotIn(node.attr, NOT_NAMES)
                if node in called:
                    self.assertIn(node.attr, METHODS + sorted(methods), name)
                else:
                    self.assertNotIn(node.attr, NOT_VALUES + sorted(methods), name)

    def test_walked_at_once(self):
        for name, tree in trees():
            for node in ast.walk(tree):
                if isinstance(node, ast.Assign) and isinstance(node.value, ast.Call):
                    self.assertNotIn(getattr(node.value.func, "id", ""), ("zip", "enumerate", "reversed", "range"), name)


if __name__ == "__main__":
    unittest.main()
