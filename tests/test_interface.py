"""The interface: how calls are handed in and how answers are given back."""

import ast
import contextlib
import io
import pathlib
import unittest

import arrowgraph.desk
from arrowgraph.desk import answers
from tests.lines import ALWAYS, BEGIN, apart, arrow, graph, least, line, nodes, roots, round_call, same

PACKAGE = pathlib.Path(arrowgraph.desk.__file__).parent

GARDEN = line(*graph(4, (0, 2), (1, 2), (2, 3)), apart(1, 2, 0), apart(1, 2, 8), roots(8), arrow(3, 0), nodes(17))
GARDEN_TOLD = [1, 0, 1, 0, 1, 0, 1, 1, 1, 2, 1, 1, 1, 0, 1, 15, 1, -2, 1, -1]


def refuse(*given, **named):
    raise AssertionError("the list that was handed in is changed")


class Untouched(list):
    __setitem__ = __delitem__ = __iadd__ = __imul__ = refuse
    append = clear = extend = insert = pop = remove = reverse = sort = refuse


class Interface(unittest.TestCase):

    def test_a_count_and_then_the_numbers(self):
        self.assertEqual(answers(GARDEN), GARDEN_TOLD)

    def test_a_list_of_one_call(self):
        self.assertEqual(answers([0]), [1, 0])

    def test_a_refusal_is_one_number(self):
        self.assertEqual(answers([0, 1, 0]), [1, 0, 1, -1])
        self.assertEqual(answers([0, 2, 0, 1, 3, 1, 2, 4, 4, 1]), [1, 0, 1, -4, 1, -4, 1, -4])
        self.assertEqual(answers([0, 1, 2, 2, 0, 1, 2, 1, 0]), [1, 0, 1, 0, 1, 0, 1, -2])

    def test_every_call_is_read_to_its_end(self):
        calls = line(BEGIN, round_call(1), least(1, 1), same([]), same([1, 1]), same([0, 1] * 120), ALWAYS, nodes(1),
                     roots(1))
        self.assertEqual(answers(calls), [1, 0] + [1, -4] * 6 + [1, 0, 1, 1])

    def test_numbers_that_look_like_calls(self):
        self.assertEqual(answers([0, 1, 4, 2, 0, 1, 2, 1, 2, 4, 4, 3, 1, 4, 2, 4, 0]),
                         [1, 0, 1, 0, 1, 0, 1, 1, 1, 7, 1, 1, 1, 0])

    def test_sixty_calls(self):
        self.assertEqual(answers(BEGIN * 60), [1, 0] * 60)
        calls = line(BEGIN, nodes(2), *[arrow(0, 1)] * 58)
        self.assertEqual(answers(calls), [1, 0, 1, 0, 1, 0] + [1, -2] * 57)
        calls = line(BEGIN, nodes(16), *[apart(21845, 43690, 0)] * 58)
        self.assertEqual(answers(calls), [1, 0, 1, 0] + [1, 1] * 58)

    def test_sixteen_nodes_with_as_many_arrows_as_sixty_calls_can_make(self):
        pairs = [(i, i + step) for step in range(1, 16) for i in range(16 - step)][:58]
        told = answers(line(*graph(16, *pairs)))
        self.assertEqual(told, [1, 0, 1, 0] + [number for before in range(58) for number in (1, before)])
        # Behind 55 of them arrows lead from node 0 to the nodes 1 to 5 alone.
        told = answers(line(*graph(16, *pairs[:55]),
                            apart(1, 1 << 15, 0b11110), apart(1, 1 << 15, 0b111110), roots(1 << 15)))
        self.assertEqual(told[-6:], [1, 0, 1, 1, 1, 65535])

    def test_answers_are_whole_numbers_in_a_list(self):
        told = answers(GARDEN)
        self.assertIs(type(told), list)
        self.assertEqual({type(number) for number in told}, {int})

    def test_what_is_handed_in_is_not_changed(self):
        calls = Untouched(GARDEN)
        self.assertEqual(answers(calls), GARDEN_TOLD)
        self.assertEqual(list(calls), GARDEN)

    def test_a_second_time_answers_as_the_first(self):
        first = answers(GARDEN)
        kept = list(first)
        first.append(7)
        self.assertEqual(answers(GARDEN), kept)
        self.assertEqual(answers([0, 4, 1]), [1, 0, 1, -4])
        self.assertEqual(answers(GARDEN), kept)

    def test_a_list_is_new_at_its_beginning(self):
        answers(line(*graph(5, (0, 1))))
        self.assertEqual(answers([0, 2, 0, 1]), [1, 0, 1, -4])
        self.assertEqual(answers([0, 1, 5, 2, 0, 1]), [1, 0, 1, 0, 1, 0])

    def test_nothing_is_printed(self):
        out = io.StringIO()
        with contextlib.redirect_stdout(out), contextlib.redirect_stderr(out):
            answers(GARDEN)
        self.assertEqual(out.getvalue(), "")

    def test_nothing_is_printed_read_or_imported_in_the_files(self):
        for path in sorted(PACKAGE.glob("*.py")):
            for part in ast.walk(ast.parse(path.read_text(encoding="utf-8"))):
                self.assertNotIsInstance(part, (ast.Import, ast.ImportFrom), path)
                if isinstance(part, ast.Name):
                    self.assertNotIn(part.id, ("print", "open", "input", "exec", "eval", "__import__"), path)
