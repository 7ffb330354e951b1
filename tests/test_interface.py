"""The interface: how calls are handed in and how answers are given back."""

import ast
import contextlib
import io
import itertools
import pathlib
import unittest

import arrowgraph.desk
from arrowgraph.desk import answers
from tests.lines import (ALWAYS, BEGIN, apart, arrow, graph, least, line, nodes, roots, round_call, same,
                         told_by_calls)

PACKAGE = pathlib.Path(arrowgraph.desk.__file__).parent

# All nine calls, and refusals among them.
GARDEN = line(*graph(4, (0, 2), (1, 2), (2, 3)), apart(1, 2, 0), apart(1, 2, 8), roots(8), arrow(3, 0), nodes(17),
              ALWAYS, round_call(0), least(0, 3), same([2, 3, 1, 2, 0, 2]), same([0]), least(2, 3), round_call(4))
GARDEN_TABLE = [0, 0, 1, 0] + [0] * 12 + [0, 0, 1, 0] + [0] * 12 + [2, 2, 0, 1] + [0] * 12 + [0, 0, 2] + [0] * 205
GARDEN_TOLD = ([1, 0, 1, 0, 1, 0, 1, 1, 1, 2, 1, 1, 1, 0, 1, 15, 1, -2, 1, -1] + [257, 0] + GARDEN_TABLE
               + [1, 6, 1, 4, 1, 1, 1, -1, 1, -2, 1, -1])


def refuse(*given, **named):
    raise AssertionError("the list that was handed in is changed")


class Untouched(list):
    __setitem__ = __delitem__ = __iadd__ = __imul__ = refuse
    append = clear = extend = insert = pop = remove = reverse = sort = refuse


class Interface(unittest.TestCase):

    def test_a_count_and_then_the_numbers(self):
        self.assertEqual(answers(GARDEN), GARDEN_TOLD)

    def test_a_list_of_one_call(self):
        self.assertEqual(answers([0]), [1, 0])

    def test_a_refusal_is_one_number(self):
        self.assertEqual(answers([0, 1, 0]), [1, 0, 1, -1])
        self.assertEqual(answers([0, 2, 0, 1, 3, 1, 2, 4, 4, 1]), [1, 0, 1, -4, 1, -4, 1, -4])
        self.assertEqual(answers([0, 1, 2, 2, 0, 1, 2, 1, 0]), [1, 0, 1, 0, 1, 0, 1, -2])

    def test_every_call_is_read_to_its_end(self):
        calls = line(BEGIN, round_call(1), least(1, 1), same([]), same([1, 1]), same([0, 1] * 120), ALWAYS, nodes(1),
                     roots(1))
        self.assertEqual(answers(calls), [1, 0] + [1, -4] * 6 + [1, 0, 1, 1])

    def test_a_row_is_read_to_its_end(self):
        for given in ([], [0, 1], [8, 8, 7], [0] * 240, [7, 2] * 120, [0, 1, 0, 2, 0, 3]):
            with self.subTest(given=given):
                told = answers(line(*graph(4, (0, 1)), same(given), roots(2)))
                self.assertEqual(told[-2:], [1, 3])
                self.assertEqual(len(told), 10)

    def test_before_always_stands_257_and_1_before_its_refusal(self):
        self.assertEqual(answers(line(BEGIN, ALWAYS)), [1, 0, 1, -4])
        self.assertEqual(answers(line(BEGIN, nodes(1), ALWAYS)), [1, 0, 1, 0, 257] + [0] * 257)
        self.assertEqual(answers(line(BEGIN, nodes(1), ALWAYS, BEGIN, ALWAYS, nodes(1), ALWAYS)),
                         [1, 0, 1, 0, 257] + [0] * 257 + [1, 0, 1, -4, 1, 0, 257] + [0] * 257)

    def test_all_nine_in_any_order(self):
        # Behind the same graph each answer is the same, whatever was asked before.
        start = graph(4, (0, 2), (1, 2), (2, 3))
        told = ((apart(1, 2, 4), [0]), (roots(4), [7]), (round_call(2), [11]), (least(1, 3), [4]),
                (same([0, 2, 1, 2, 2, 3]), [1]), (ALWAYS, [0] + GARDEN_TABLE), (arrow(2, 0), [-2]), (nodes(0), [-1]))
        for order in itertools.permutations(told, 4):
            calls = [call for call, numbers in order]
            self.assertEqual(told_by_calls(*start, *calls)[5:], [numbers for call, numbers in order])

    def test_begin_and_nodes_again_in_the_middle(self):
        asked = [round_call(2), least(0, 1), same([0, 2, 1, 2]), ALWAYS, apart(1, 2, 4), roots(4), arrow(0, 1)]
        table = [0, 0, 0, 1] + [0] * 15 + [1] + [0] * 13 + [2, 2] + [0] * 222
        self.assertEqual(
            told_by_calls(*graph(3, (0, 2), (1, 2)), *asked, BEGIN, *asked, nodes(3), *asked),
            [[0], [0], [0], [1]] + [[3], [0], [1], table, [0], [7], [2]]
            + [[0]] + [[-4]] * 7
            + [[0]] + [[0], [0], [0], [0] * 257, [1], [4], [0]])

    def test_behind_nodes_every_call_is_answered(self):
        numbers = (-2147483648, -1, 0, 1, 15, 16, 2147483647)
        calls = [call(i) for call in (nodes, round_call) for i in numbers]
        calls += [call(i, j) for call in (arrow, least) for i in numbers for j in numbers]
        calls += [roots(4294967295), apart(4294967295, 0, 1), same([255] * 240), same([0] * 239), ALWAYS]
        for n, place in itertools.product((1, 2, 16), range(0, len(calls), 25)):
            part = [each for call in calls[place:place + 25] for each in (nodes(n), call)]
            for numbers in told_by_calls(BEGIN, *part):
                self.assertIn(len(numbers), (1, 257))
                self.assertNotEqual(numbers[0], -4)

    def test_the_longest_list(self):
        # As many of the longest rows as 60 calls can have.
        full = [node for pair in itertools.combinations(range(16), 2) for node in pair]
        calls = line(BEGIN, nodes(16), *[same(full)] * 58)
        self.assertEqual(len(calls), 3 + 58 * 242)
        self.assertEqual(answers(calls), [1, 0, 1, 0] + [1, 0] * 58)

    def test_numbers_that_look_like_calls(self):
        self.assertEqual(answers([0, 1, 4, 2, 0, 1, 2, 1, 2, 4, 4, 3, 1, 4, 2, 4, 0]),
                         [1, 0, 1, 0, 1, 0, 1, 1, 1, 7, 1, 1, 1, 0])

    def test_sixty_calls(self):
        self.assertEqual(answers(BEGIN * 60), [1, 0] * 60)
        calls = line(BEGIN, nodes(2), *[arrow(0, 1)] * 58)
        self.assertEqual(answers(calls), [1, 0, 1, 0, 1, 0] + [1, -2] * 57)
        calls = line(BEGIN, nodes(16), *[apart(21845, 43690, 0)] * 58)
        self.assertEqual(answers(calls), [1, 0, 1, 0] + [1, 1] * 58)

    def test_sixteen_nodes_with_as_many_arrows_as_sixty_calls_can_make(self):
        pairs = [(i, i + step) for step in range(1, 16) for i in range(16 - step)][:58]
        told = answers(line(*graph(16, *pairs)))
        self.assertEqual(told, [1, 0, 1, 0] + [number for before in range(58) for number in (1, before)])
        # Behind 55 of them arrows lead from node 0 to the nodes 1 to 5 alone.
        told = answers(line(*graph(16, *pairs[:55]),
                            apart(1, 1 << 15, 0b11110), apart(1, 1 << 15, 0b111110), roots(1 << 15)))
        self.assertEqual(told[-6:], [1, 0, 1, 1, 1, 65535])

    def test_answers_are_whole_numbers_in_a_list(self):
        told = answers(GARDEN)
        self.assertIs(type(told), list)
        self.assertEqual({type(number) for number in told}, {int})

    def test_what_is_handed_in_is_not_changed(self):
        calls = Untouched(GARDEN)
        self.assertEqual(answers(calls), GARDEN_TOLD)
        self.assertEqual(list(calls), GARDEN)

    def test_a_second_time_answers_as_the_first(self):
        first = answers(GARDEN)
        kept = list(first)
        first.append(7)
        self.assertEqual(answers(GARDEN), kept)
        self.assertEqual(answers([0, 4, 1]), [1, 0, 1, -4])
        self.assertEqual(answers(GARDEN), kept)

    def test_a_list_is_new_at_its_beginning(self):
        answers(line(*graph(5, (0, 1))))
        self.assertEqual(answers([0, 2, 0, 1]), [1, 0, 1, -4])
        self.assertEqual(answers([0, 1, 5, 2, 0, 1]), [1, 0, 1, 0, 1, 0])

    def test_nothing_is_printed(self):
        out = io.StringIO()
        with contextlib.redirect_stdout(out), contextlib.redirect_stderr(out):
            answers(GARDEN)
        self.assertEqual(out.getvalue(), "")

    def test_nothing_is_printed_read_or_imported_in_the_files(self):
        for path in sorted(PACKAGE.glob("*.py")):
            for part in ast.walk(ast.parse(path.read_text(encoding="utf-8"))):
                self.assertNotIsInstance(part, (ast.Import, ast.ImportFrom), path)
                if isinstance(part, ast.Name):
                    self.assertNotIn(part.id, ("print", "open", "input", "exec", "eval", "__import__"), path)
