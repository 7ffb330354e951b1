"""The package keeps to the sizes, signs and words that its language allows."""

import ast
import pathlib
import re
import unittest

import arrowgraph.desk

PACKAGE = pathlib.Path(arrowgraph.desk.__file__).parent
WORDS = ("type", "typing", "typing_extensions", "enum", "Enum", "IntEnum", "StrEnum", "Flag", "IntFlag", "Generic",
         "Protocol", "ABC", "ABCMeta", "namedtuple", "NamedTuple", "TypedDict", "TYPE_CHECKING", "abstractmethod")
RULED_OUT = (ast.With, ast.Delete, ast.Global, ast.Nonlocal, ast.Assert, ast.Yield, ast.YieldFrom, ast.Match,
             ast.AsyncFunctionDef, ast.Await, ast.SetComp, ast.DictComp, ast.GeneratorExp, ast.NamedExpr, ast.Starred,
             ast.Div)


class Form(unittest.TestCase):

    def files(self):
        found = [path for path in sorted(PACKAGE.iterdir()) if path.name != "__pycache__"]
        self.assertTrue(found)
        return found

    def test_plain_python_files_alone(self):
        for path in self.files():
            self.assertRegex(path.name, r"\A(__init__|[a-z][a-z0-9_]*)\.py\Z")

    def test_sizes_and_signs(self):
        for path in self.files():
            text = path.read_bytes().decode("ascii")
            self.assertRegex(text, r"\A[ -~\n]*\Z", path)
            rows = text.split("\n")
            self.assertLessEqual(len(rows), 400, path)
            self.assertLessEqual(max(len(row) for row in rows), 120, path)

    def test_small_functions_of_the_allowed_parts(self):
        for path in self.files():
            for part in ast.walk(ast.parse(path.read_text(encoding="ascii"))):
                self.assertNotIsInstance(part, RULED_OUT, path)
                if isinstance(part, ast.FunctionDef):
                    self.assertLessEqual(part.end_lineno - part.lineno + 1, 40, part.name)
                    self.assertEqual(part.decorator_list, [], part.name)

    def test_words_that_stand_nowhere(self):
        for path in self.files():
            words = re.findall(r"\w+", path.read_text(encoding="ascii"))
            self.assertEqual([word for word in words if word in WORDS], [], path)
