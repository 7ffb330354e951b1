"""Point 1: begin."""

import unittest

from tests.lines import (ALWAYS, BEGIN, HIGHEST, HIGHEST_SET, LOWEST, apart, arrow, ask, least, nodes, roots,
                         round_call, same)


class Begin(unittest.TestCase):

    def test_answers_zero(self):
        self.assertEqual(ask(BEGIN), [0])
        self.assertEqual(ask(BEGIN, BEGIN, BEGIN), [0, 0, 0])

    def test_all_but_nodes_are_refused_without_nodes(self):
        for call in (arrow(0, 1), apart(1, 2, 0), roots(1), roots(0), round_call(0), least(0, 1),
                     same([]), same([0, 1]), ALWAYS):
            with self.subTest(call=call):
                self.assertEqual(ask(BEGIN, call), [0, -4])

    def test_refused_ahead_of_all_else(self):
        for call in (arrow(0, 0), arrow(-1, 5), arrow(LOWEST, HIGHEST), apart(0, 0, 0), apart(1, 1, 1),
                     apart(HIGHEST_SET, HIGHEST_SET, HIGHEST_SET), roots(HIGHEST_SET), round_call(LOWEST),
                     least(3, 3), same([0]), same([7, 7]), same([0, 1, 1, 0])):
            with self.subTest(call=call):
                self.assertEqual(ask(BEGIN, call), [0, -4])

    def test_nodes_are_taken_behind_refused_calls(self):
        self.assertEqual(ask(BEGIN, same([1, 2, 3, 4]), ALWAYS, least(0, 1), nodes(2), arrow(0, 1), roots(2)),
                         [0, -4, -4, -4, 0, 0, 3])

    def test_refused_nodes_leave_none(self):
        self.assertEqual(ask(BEGIN, nodes(0), arrow(0, 1), nodes(17), roots(0), nodes(-1), apart(1, 2, 0)),
                         [0, -1, -4, -1, -4, -1, -4])

    def test_again_takes_the_nodes_away(self):
        self.assertEqual(ask(BEGIN, nodes(3), arrow(0, 1), BEGIN, arrow(1, 2), apart(1, 2, 0), roots(1), arrow(0, 0)),
                         [0, 0, 0, 0, -4, -4, -4, -4])

    def test_again_takes_the_arrows_away(self):
        self.assertEqual(ask(BEGIN, nodes(3), arrow(0, 1), arrow(1, 2), BEGIN, nodes(3), roots(7), roots(4),
                             arrow(2, 0), arrow(0, 1)),
                         [0, 0, 0, 1, 0, 0, 7, 4, 0, 1])
