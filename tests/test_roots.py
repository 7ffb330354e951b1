"""Point 5: roots."""

import unittest

from tests.lines import HIGHEST, HIGHEST_SET, arrow, ask, graph, last, nodeset, roots

CHAIN = graph(5, (0, 1), (1, 2), (2, 3))
RAIN, HOSE, LAWN, SHOES = range(4)
GARDEN = graph(4, (RAIN, LAWN), (HOSE, LAWN), (LAWN, SHOES))


class Roots(unittest.TestCase):

    def test_the_empty_set(self):
        self.assertEqual(last(graph(1), roots(0)), 0)
        self.assertEqual(last(CHAIN, roots(0)), 0)

    def test_without_arrows_a_set_comes_from_itself(self):
        for nodes in range(16):
            self.assertEqual(last(graph(4), roots(nodes)), nodes)

    def test_arrows_of_several_steps(self):
        for node in range(4):
            self.assertEqual(last(CHAIN, roots(1 << node)), nodeset(*range(node + 1)))
        self.assertEqual(last(CHAIN, roots(nodeset(4))), nodeset(4))

    def test_steps_down_the_numbers_and_up_again(self):
        laid = graph(5, (4, 1), (1, 3), (3, 0), (0, 2))
        self.assertEqual(last(laid, roots(nodeset(2))), nodeset(0, 1, 2, 3, 4))
        self.assertEqual(last(laid, roots(nodeset(0))), nodeset(0, 1, 3, 4))
        self.assertEqual(last(laid, roots(nodeset(4))), nodeset(4))

    def test_several_that_lead_to_one(self):
        self.assertEqual(last(GARDEN, roots(nodeset(LAWN))), nodeset(RAIN, HOSE, LAWN))
        self.assertEqual(last(GARDEN, roots(nodeset(SHOES))), nodeset(RAIN, HOSE, LAWN, SHOES))
        self.assertEqual(last(GARDEN, roots(nodeset(HOSE))), nodeset(HOSE))

    def test_sets_of_several(self):
        self.assertEqual(last(CHAIN, roots(nodeset(1, 4))), nodeset(0, 1, 4))
        self.assertEqual(last(GARDEN, roots(nodeset(RAIN, HOSE))), nodeset(RAIN, HOSE))
        self.assertEqual(last(GARDEN, roots(nodeset(RAIN, LAWN))), nodeset(RAIN, HOSE, LAWN))

    def test_sixteen_nodes_in_a_chain(self):
        for chain in (list(range(16)), list(range(15, -1, -1))):
            laid = graph(16, *zip(chain, chain[1:]))
            self.assertEqual(last(laid, roots(1 << chain[15])), 65535)
            self.assertEqual(last(laid, roots(1 << chain[7])), nodeset(*chain[:8]))

    def test_a_node_that_is_not_there_is_refused(self):
        for n in range(1, 17):
            for wrong in (1 << n, (1 << n) + 1, (2 << n) - 1, 1 << 16, 1 << 31, HIGHEST, HIGHEST_SET):
                with self.subTest(n=n, wrong=wrong):
                    self.assertEqual(last(graph(n), roots(wrong)), -1)

    def test_changes_nothing(self):
        told = ask(*GARDEN, roots(15), roots(16), roots(4), roots(4), arrow(RAIN, SHOES))
        self.assertEqual(told[-5:], [15, -1, 7, 7, 3])
