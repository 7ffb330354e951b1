"""Point 3: arrow."""

import unittest

from tests.lines import BEGIN, HIGHEST, LOWEST, arrow, ask, graph, last, nodes, roots


class Arrow(unittest.TestCase):

    def test_tells_how_many_there_were_before(self):
        self.assertEqual(ask(*graph(4, (0, 1), (0, 2), (1, 2), (3, 1))), [0, 0, 0, 1, 2, 3])

    def test_leads_from_the_first_to_the_second(self):
        self.assertEqual(ask(*graph(2, (1, 0)), roots(1), roots(2)), [0, 0, 0, 3, 2])

    def test_what_is_no_node_is_refused(self):
        for n in (1, 3, 16):
            for wrong in (-1, n, n + 1, -n, 32, LOWEST, HIGHEST):
                with self.subTest(n=n, wrong=wrong):
                    self.assertEqual(last(graph(n), arrow(wrong, 0)), -1)
                    self.assertEqual(last(graph(n), arrow(0, wrong)), -1)
                    self.assertEqual(last(graph(n), arrow(wrong, wrong)), -1)

    def test_to_itself_is_refused(self):
        for node in range(16):
            with self.subTest(node=node):
                self.assertEqual(last(graph(16), arrow(node, node)), -1)

    def test_there_already(self):
        self.assertEqual(ask(*graph(3, (0, 1), (2, 1)), arrow(0, 1), arrow(2, 1)), [0, 0, 0, 1, -2, -2])

    def test_straight_back(self):
        self.assertEqual(last(graph(2, (0, 1)), arrow(1, 0)), -2)
        self.assertEqual(last(graph(2, (1, 0)), arrow(0, 1)), -2)

    def test_back_over_several_arrows(self):
        self.assertEqual(last(graph(3, (0, 1), (1, 2)), arrow(2, 0)), -2)
        self.assertEqual(last(graph(4, (3, 1), (1, 0), (0, 2)), arrow(2, 3)), -2)

    def test_back_over_all_sixteen_nodes(self):
        for order in (range(16), range(15, -1, -1)):
            chain = list(order)
            laid = graph(16, *zip(chain, chain[1:]))
            with self.subTest(chain=chain):
                self.assertEqual(last(laid, arrow(chain[15], chain[0])), -2)
                self.assertEqual(last(laid, arrow(chain[0], chain[15])), 15)

    def test_two_ways_to_one_node_do_not_lead_round(self):
        self.assertEqual(ask(*graph(4, (0, 1), (0, 2), (1, 3), (2, 3)), arrow(0, 3), arrow(1, 2)),
                         [0, 0, 0, 1, 2, 3, 4, 5])

    def test_wrong_number_is_looked_at_ahead_of_wrong_arrow(self):
        # A set comes from its own nodes too, so this could be taken for -2.
        laid = graph(2, (0, 1))
        self.assertEqual(last(laid, arrow(0, 0)), -1)
        self.assertEqual(last(laid, arrow(1, 1)), -1)
        # Arrows of a larger graph before must not be found any more.
        self.assertEqual(ask(*graph(4, (2, 3)), nodes(2), arrow(2, 3), arrow(3, 2))[-2:], [-1, -1])

    def test_refused_changes_nothing(self):
        told = ask(*graph(3, (0, 1), (1, 2)), arrow(2, 0), arrow(1, 0), arrow(0, 1), arrow(0, 0), arrow(0, 3),
                   arrow(-1, 0), roots(1), roots(2), roots(4), arrow(0, 2))
        self.assertEqual(told[4:], [-2, -2, -2, -1, -1, -1, 1, 3, 7, 2])

    def test_as_many_as_a_line_can_make(self):
        pairs = [(i, j) for j in range(16) for i in range(j)]
        self.assertEqual(ask(*graph(16, *pairs[:58])), [0, 0] + list(range(58)))
        down = [(15 - i, 15 - j) for i, j in pairs]
        self.assertEqual(ask(*graph(16, *down[:58])), [0, 0] + list(range(58)))

    def test_no_nodes(self):
        self.assertEqual(ask(BEGIN, arrow(0, 1)), [0, -4])
