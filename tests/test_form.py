"""The package keeps to the sizes, signs and words that its language allows."""

import ast
import builtins
import pathlib
import re
import unittest

import arrowgraph.desk

PACKAGE = pathlib.Path(arrowgraph.desk.__file__).parent
WORDS = ("type", "typing", "typing_extensions", "enum", "Enum", "IntEnum", "StrEnum", "Flag", "IntFlag", "Generic",
         "Protocol", "ABC", "ABCMeta", "namedtuple", "NamedTuple", "TypedDict", "TYPE_CHECKING", "abstractmethod")
RULED_OUT = (ast.With, ast.Delete, ast.Global, ast.Nonlocal, ast.Assert, ast.Yield, ast.YieldFrom, ast.Match,
             ast.AsyncFunctionDef, ast.Await, ast.SetComp, ast.DictComp, ast.GeneratorExp, ast.NamedExpr, ast.Starred,
             ast.Div)

PYTHONS_OWN = ("len range enumerate zip min max sum abs sorted reversed int str bool list tuple dict set frozenset "
               "isinstance ord repr any all divmod Exception ValueError KeyError IndexError LookupError "
               "ZeroDivisionError ArithmeticError OverflowError RuntimeError NotImplementedError StopIteration").split()
METHODS = ("append clear copy count endswith extend find get index insert isalnum isalpha isdigit islower isspace "
           "isupper items join keys ljust lower lstrip partition pop remove replace reverse rfind rjust rpartition "
           "rsplit rstrip setdefault split splitlines startswith strip update upper values zfill bit_length").split()


def top_names(tree):
    found = []
    for part in tree.body:
        if isinstance(part, (ast.FunctionDef, ast.ClassDef)):
            found.append(part.name)
        if isinstance(part, ast.Assign):
            found.extend(target.id for target in part.targets)
    return found


def local_names(tree):
    found = []
    for function in ast.walk(tree):
        if isinstance(function, ast.FunctionDef):
            for part in ast.walk(function):
                if isinstance(part, ast.arg):
                    found.append(part.arg)
                if isinstance(part, ast.Name) and isinstance(part.ctx, ast.Store):
                    found.append(part.id)
    return found


class Form(unittest.TestCase):

    def files(self):
        found = [path for path in sorted(PACKAGE.iterdir()) if path.name != "__pycache__"]
        self.assertTrue(found)
        return found

    def test_plain_python_files_alone(self):
        for path in self.files():
            self.assertRegex(path.name, r"\A(__init__|[a-z][a-z0-9_]*)\.py\Z")

    def test_sizes_and_signs(self):
        for path in self.files():
            text = path.read_bytes().decode("ascii")
            self.assertRegex(text, r"\A[ -~\n]*\Z", path)
            rows = text.split("\n")
            self.assertLessEqual(len(rows), 400, path)
            self.assertLessEqual(max(len(row) for row in rows), 120, path)

    def trees(self):
        return [ast.parse(path.read_text(encoding="ascii")) for path in self.files()]

    def test_each_name_of_the_top_once(self):
        for tree in self.trees():
            names = top_names(tree)
            self.assertEqual(len(names), len(set(names)))

    def test_plain_names_of_their_own(self):
        for tree in self.trees():
            for name in top_names(tree) + local_names(tree):
                self.assertRegex(name, r"\A[A-Za-z][A-Za-z0-9_]*\Z")
                self.assertNotIn(name, dir(builtins))
            self.assertEqual(set(local_names(tree)) & set(top_names(tree)), set())

    def test_no_other_name_of_pythons_own(self):
        for tree in self.trees():
            known = top_names(tree) + local_names(tree) + PYTHONS_OWN
            for part in ast.walk(tree):
                if isinstance(part, ast.Name):
                    self.assertIn(part.id, known, part.lineno)

    def test_no_other_method_of_pythons_own(self):
        for tree in self.trees():
            for part in ast.walk(tree):
                if isinstance(part, ast.Call) and isinstance(part.func, ast.Attribute):
                    self.assertIn(part.func.attr, METHODS, part.lineno)

    def test_no_power_and_is_beside_none_alone(self):
        for tree in self.trees():
            for part in ast.walk(tree):
                self.assertNotIsInstance(part, ast.Pow)
                if isinstance(part, ast.Compare) and isinstance(part.ops[0], (ast.Is, ast.IsNot)):
                    self.assertIsNone(part.comparators[0].value)

    def test_small_functions_of_the_allowed_parts(self):
        for path in self.files():
            for part in ast.walk(ast.parse(path.read_text(encoding="ascii"))):
                self.assertNotIsInstance(part, RULED_OUT, path)
                if isinstance(part, ast.FunctionDef):
                    self.assertLessEqual(part.end_lineno - part.lineno + 1, 40, part.name)
                    self.assertEqual(part.decorator_list, [], part.name)

    def test_words_that_stand_nowhere(self):
        for path in self.files():
            words = re.findall(r"\w+", path.read_text(encoding="ascii"))
            self.assertEqual([word for word in words if word in WORDS], [], path)
