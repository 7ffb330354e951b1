"""Point 7: least."""

import itertools
import unittest

from tests.graphs import all_graphs, least_by_ways, some_graph
from tests.lines import (BEGIN, HIGHEST, LOWEST, apart, arrow, ask, ask_in_lines, graph, last, least, nodes, nodeset,
                         roots)


class Least(unittest.TestCase):

    def check(self, laid, i, j, expected):
        self.assertEqual(last(laid, least(i, j)), expected)
        self.assertEqual(last(laid, least(j, i)), expected)

    def test_nothing_links_them(self):
        self.check(graph(2), 0, 1, 0)
        self.check(graph(16), 0, 15, 0)
        self.check(graph(5, (0, 2), (2, 4), (1, 3)), 4, 3, 0)

    def test_near(self):
        self.check(graph(2, (0, 1)), 0, 1, -2)
        self.check(graph(2, (1, 0)), 0, 1, -2)
        self.check(graph(4, (0, 1), (0, 2), (2, 1), (3, 0)), 0, 1, -2)

    def test_one_node_is_needed(self):
        self.check(graph(3, (0, 1), (1, 2)), 0, 2, nodeset(1))
        self.check(graph(3, (2, 1), (1, 0)), 0, 2, nodeset(1))
        self.check(graph(3, (1, 0), (1, 2)), 0, 2, nodeset(1))
        self.check(graph(16, (0, 15), (15, 7)), 0, 7, nodeset(15))

    def test_the_lowest_of_a_chain(self):
        self.check(graph(5, (0, 3), (3, 2), (2, 4), (4, 1)), 0, 1, nodeset(2))

    def test_several_nodes_are_needed(self):
        self.check(graph(5, (0, 2), (2, 1), (3, 0), (3, 1)), 0, 1, nodeset(2, 3))
        self.check(graph(6, (2, 0), (2, 1), (3, 0), (3, 1), (0, 4), (4, 1)), 0, 1, nodeset(2, 3, 4))

    def test_the_least_number_is_not_of_the_fewest_nodes(self):
        # 5 alone would do, and counts 32; 2, 3 and 4 together count 28.
        laid = graph(6, (0, 2), (0, 3), (0, 4), (2, 5), (3, 5), (4, 5), (5, 1))
        self.assertEqual(last(laid, apart(1, 2, nodeset(5))), 1)
        self.check(laid, 0, 1, nodeset(2, 3, 4))

    def test_a_node_that_arrows_from_both_lead_to_stays_out(self):
        self.check(graph(3, (0, 2), (1, 2)), 0, 1, 0)
        self.check(graph(4, (0, 2), (1, 2), (0, 3), (3, 1)), 0, 1, nodeset(3))
        self.check(graph(5, (0, 2), (1, 2), (2, 3), (0, 4), (4, 1)), 0, 1, nodeset(4))

    def test_a_low_node_that_would_open_another_way(self):
        # 2 is on a way, but arrows meet in it: with it, 3 or 4 is needed too.
        laid = graph(5, (3, 0), (3, 2), (4, 2), (4, 1), (2, 1))
        self.assertEqual(last(laid, apart(1, 2, nodeset(2))), 0)
        self.assertEqual(last(laid, apart(1, 2, nodeset(2, 3))), 1)
        self.check(laid, 0, 1, nodeset(3))
        # With arrows from it to both, it must be in, and the lower one with it.
        self.check(graph(5, (3, 0), (3, 2), (4, 2), (4, 1), (2, 1), (2, 0)), 0, 1, nodeset(2, 3))

    def test_one_below_both_is_of_no_use(self):
        self.check(graph(6, (0, 5), (5, 1), (1, 2), (0, 3), (3, 4), (2, 4)), 0, 1, nodeset(5))

    def test_nodes_of_any_numbers(self):
        self.check(graph(16, (15, 8), (8, 3), (12, 15), (12, 3)), 3, 15, nodeset(8, 12))
        self.check(graph(16, (14, 13), (13, 0)), 14, 0, nodeset(13))

    def test_every_graph_of_up_to_four_nodes(self):
        for n in (2, 3, 4):
            pairs = list(itertools.permutations(range(n), 2))
            for arrows in all_graphs(n):
                found = ask_in_lines(graph(n, *arrows), [least(i, j) for i, j in pairs])
                self.assertEqual(found, [least_by_ways(n, arrows, i, j) for i, j in pairs], arrows)

    def test_graphs_of_six_and_seven_nodes(self):
        for n, count in ((6, 5), (6, 7), (6, 9), (6, 11), (7, 8), (7, 10)):
            pairs = list(itertools.combinations(range(n), 2))
            for seed in range(12):
                arrows = some_graph(n, count, seed)
                found = ask_in_lines(graph(n, *arrows), [least(i, j) for i, j in pairs])
                self.assertEqual(found, [least_by_ways(n, arrows, i, j) for i, j in pairs], arrows)

    def test_what_is_no_node_is_refused(self):
        for n in (1, 2, 3, 16):
            for wrong in (-1, n, n + 1, -n, 32, LOWEST, HIGHEST):
                with self.subTest(n=n, wrong=wrong):
                    self.assertEqual(last(graph(n), least(wrong, 0)), -1)
                    self.assertEqual(last(graph(n), least(0, wrong)), -1)
                    self.assertEqual(last(graph(n), least(wrong, wrong)), -1)

    def test_a_node_with_itself_is_refused(self):
        for node in range(16):
            self.assertEqual(last(graph(16), least(node, node)), -1)
            self.assertEqual(last(graph(16, (node, (node + 1) % 16)), least(node, node)), -1)

    def test_wrong_numbers_are_looked_at_ahead_of_there_being_none(self):
        # No set holds a node apart from itself, and these were near before.
        self.assertEqual(last(graph(1), least(0, 0)), -1)
        self.assertEqual(ask(*graph(4, (2, 3)), nodes(3), least(2, 3), least(3, 2))[-2:], [-1, -1])

    def test_sixteen_nodes_found_late(self):
        # All others are needed: of all sets without 0 and 1 it is the last.
        arrows = [(node, end) for node in range(2, 16) for end in (0, 1)]
        laid = graph(16, *arrows)
        told = ask(*laid, *[least(0, 1), least(1, 0)] * 15)
        self.assertEqual(told[-30:], [65532] * 30)

    def test_sixteen_nodes_found_late_though_it_is_one(self):
        arrows = [(0, 15), (15, 1)] + [(0, node) for node in range(2, 15)] + [(1, node) for node in range(2, 15)]
        told = ask(*graph(16, *arrows), *[least(0, 1)] * 30)
        self.assertEqual(told[-30:], [nodeset(15)] * 30)

    def test_sixteen_nodes_with_none(self):
        arrows = [(0, 1)] + [(node, end) for node in range(2, 16) for end in (0, 1)]
        told = ask(*graph(16, *arrows), *[least(0, 1), least(1, 0)] * 14)
        self.assertEqual(told[-28:], [-2] * 28)
        told = ask(*graph(16, (0, 1)), *[least(0, 1)] * 57)
        self.assertEqual(told[-57:], [-2] * 57)

    def test_sixteen_nodes_many_times(self):
        # In steps of 1 and 2 along the nodes, any two beside each other are a wall.
        arrows = [(i, i + step) for step in (1, 2) for i in range(16 - step)]
        pairs = [(i, j) for i in range(16) for j in range(i + 3, 16)]
        found = ask_in_lines(graph(16, *arrows), [least(i, j) for i, j in pairs])
        self.assertEqual(found, [nodeset(i + 1, i + 2) for i, j in pairs])

    def test_no_nodes(self):
        for i, j in ((0, 1), (0, 0), (-1, 3), (LOWEST, HIGHEST), (16, 16)):
            self.assertEqual(ask(BEGIN, least(i, j)), [0, -4])
            self.assertEqual(ask(*graph(3, (0, 1)), BEGIN, least(i, j))[-1], -4)

    def test_changes_nothing(self):
        told = ask(*graph(4, (0, 1), (1, 2)), least(0, 2), least(0, 1), least(0, 0), least(0, 4), least(0, 2),
                   roots(4), arrow(0, 2), least(0, 2))
        self.assertEqual(told[-8:], [2, -2, -1, -1, 2, 7, 2, -2])
