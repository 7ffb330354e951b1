"""Point 2: nodes."""

import unittest

from tests.lines import BEGIN, HIGHEST, LOWEST, arrow, ask, graph, last, nodes, roots

REFUSED = (0, 17, -1, 18, 32, -16, LOWEST, HIGHEST)


class Nodes(unittest.TestCase):

    def test_every_count_from_1_to_16(self):
        for n in range(1, 17):
            with self.subTest(n=n):
                everything = 2 ** n - 1
                self.assertEqual(ask(BEGIN, nodes(n), roots(everything), roots(everything + 1)),
                                 [0, 0, everything, -1])

    def test_counts_outside_are_refused(self):
        for n in REFUSED:
            with self.subTest(n=n):
                self.assertEqual(ask(BEGIN, nodes(n)), [0, -1])

    def test_last_node_takes_arrows(self):
        self.assertEqual(last(graph(16), arrow(15, 0)), 0)
        self.assertEqual(last(graph(16), arrow(0, 15)), 0)
        self.assertEqual(last(graph(16), arrow(0, 16)), -1)
        self.assertEqual(last(graph(1), arrow(0, 1)), -1)

    def test_again_takes_all_arrows_away(self):
        self.assertEqual(ask(BEGIN, nodes(3), arrow(0, 1), arrow(1, 2), roots(4), nodes(3), roots(4), arrow(2, 0)),
                         [0, 0, 0, 1, 7, 0, 4, 0])

    def test_again_with_another_count(self):
        self.assertEqual(ask(BEGIN, nodes(2), roots(4), nodes(3), roots(4), nodes(1), roots(2)),
                         [0, 0, -1, 0, 4, 0, -1])

    def test_refused_changes_nothing(self):
        for n in REFUSED:
            with self.subTest(n=n):
                self.assertEqual(ask(BEGIN, nodes(3), arrow(0, 1), nodes(n), roots(2), roots(4), roots(8),
                                     arrow(0, 1), arrow(1, 2)),
                                 [0, 0, 0, -1, 3, 4, -1, -2, 1])
