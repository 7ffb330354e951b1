"""Point 6: round."""

import unittest

from tests.graphs import all_graphs
from tests.lines import (BEGIN, HIGHEST, LOWEST, apart, arrow, ask, ask_in_lines, graph, last, nodes, nodeset, roots,
                         round_call)

RAIN, HOSE, LAWN, SHOES = range(4)
GARDEN = graph(4, (RAIN, LAWN), (HOSE, LAWN), (LAWN, SHOES))


def round_by_pairs(n, arrows, i):
    found = set()
    for other in range(n):
        near = (i, other) in arrows or (other, i) in arrows
        to_one = any((i, end) in arrows and (other, end) in arrows for end in range(n))
        if other != i and (near or to_one):
            found.add(other)
    return nodeset(*found)


class Round(unittest.TestCase):

    def check(self, laid, i, expected):
        self.assertEqual(last(laid, round_call(i)), nodeset(*expected))

    def test_a_node_with_no_arrows(self):
        self.check(graph(1), 0, [])
        self.check(graph(3, (0, 2)), 1, [])
        for node in range(16):
            self.check(graph(16), node, [])

    def test_those_from_which_arrows_lead_to_it(self):
        self.check(graph(4, (0, 2), (3, 2)), 2, [0, 3])

    def test_those_to_which_arrows_lead_from_it(self):
        self.check(graph(4, (2, 0), (2, 3)), 2, [0, 3])

    def test_others_from_which_arrows_lead_there(self):
        self.check(GARDEN, RAIN, [HOSE, LAWN])
        self.check(GARDEN, HOSE, [RAIN, LAWN])
        self.check(GARDEN, LAWN, [RAIN, HOSE, SHOES])
        self.check(GARDEN, SHOES, [LAWN])

    def test_others_that_are_near_as_well(self):
        laid = graph(3, (0, 1), (0, 2), (1, 2))
        self.check(laid, 0, [1, 2])
        self.check(laid, 1, [0, 2])
        self.check(laid, 2, [0, 1])

    def test_others_at_several_ends(self):
        laid = graph(7, (0, 1), (0, 2), (3, 1), (4, 1), (4, 2), (5, 2), (6, 5))
        self.check(laid, 0, [1, 2, 3, 4, 5])
        self.check(laid, 4, [0, 1, 2, 3, 5])
        self.check(laid, 3, [0, 1, 4])

    def test_one_step_alone(self):
        chain = graph(5, (0, 1), (1, 2), (2, 3), (3, 4))
        self.check(chain, 0, [1])
        self.check(chain, 2, [1, 3])
        self.check(chain, 4, [3])
        # Two to which arrows lead from one node tell nothing of each other here.
        self.check(graph(3, (0, 1), (0, 2)), 1, [0])

    def test_all_sixteen(self):
        laid = graph(16, *[(node, 15) for node in range(15)])
        for node in range(16):
            self.check(laid, node, set(range(16)) - {node})

    def test_every_graph_of_up_to_four_nodes(self):
        for n in (1, 2, 3, 4):
            for arrows in all_graphs(n):
                found = ask_in_lines(graph(n, *arrows), [round_call(i) for i in range(n)])
                self.assertEqual(found, [round_by_pairs(n, arrows, i) for i in range(n)], arrows)

    def test_what_is_round_holds_the_node_apart_from_all_others(self):
        for arrows in all_graphs(4):
            for i in range(4):
                found = last(graph(4, *arrows), round_call(i))
                others = 15 & ~found & ~(1 << i)
                if others:
                    self.assertEqual(last(graph(4, *arrows), apart(1 << i, others, found)), 1, (arrows, i))

    def test_what_is_no_node_is_refused(self):
        for n in range(1, 17):
            for wrong in (-1, n, n + 1, -n, 32, -32, LOWEST, HIGHEST):
                with self.subTest(n=n, wrong=wrong):
                    self.assertEqual(last(graph(n), round_call(wrong)), -1)
        self.assertEqual(ask(*graph(4, (2, 3)), nodes(2), round_call(2), round_call(3), round_call(1))[-3:],
                         [-1, -1, 0])

    def test_no_nodes(self):
        for i in (0, 1, -1, 16, LOWEST, HIGHEST):
            self.assertEqual(ask(BEGIN, round_call(i)), [0, -4])
            self.assertEqual(ask(*graph(3, (0, 1)), BEGIN, round_call(i))[-1], -4)

    def test_changes_nothing(self):
        told = ask(*GARDEN, round_call(LAWN), round_call(4), round_call(-1), round_call(LAWN), round_call(RAIN),
                   roots(8), arrow(RAIN, HOSE))
        self.assertEqual(told[-7:], [11, -1, -1, 11, 6, 15, 3])
