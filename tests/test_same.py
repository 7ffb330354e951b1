"""Point 8: same."""

import itertools
import unittest

from tests.graphs import all_graphs, near_pairs, say_the_same
from tests.lines import BEGIN, arrow, ask, ask_in_lines, graph, last, nodes, roots, row, same

CHAIN = [(0, 1), (1, 2), (2, 3)]
# Of 16 nodes all are near: these are 120 arrows, 240 numbers, the most there are.
FULL = list(itertools.combinations(range(16), 2))


class Same(unittest.TestCase):

    def check(self, n, arrows, others, expected):
        self.assertEqual(last(graph(n, *arrows), same(row(others))), expected)
        self.assertEqual(last(graph(n, *others), same(row(arrows))), expected)

    def test_an_empty_row(self):
        for n in (1, 2, 16):
            self.check(n, [], [], 1)
        self.check(2, [(0, 1)], [], 0)
        self.check(16, [(15, 14)], [], 0)

    def test_the_same_arrows_in_another_order(self):
        arrows = [(0, 2), (1, 2), (2, 3), (0, 4), (4, 3)]
        for others in itertools.permutations(arrows):
            self.assertEqual(last(graph(5, *arrows), same(row(others))), 1)

    def test_one_arrow_turned_round(self):
        self.check(2, [(0, 1)], [(1, 0)], 1)
        self.check(16, [(15, 0)], [(0, 15)], 1)

    def test_a_chain_turned_round(self):
        self.check(4, CHAIN, [(3, 2), (2, 1), (1, 0)], 1)
        self.check(4, CHAIN, [(1, 0), (1, 2), (2, 3)], 1)
        self.check(4, CHAIN, [(1, 0), (2, 1), (2, 3)], 1)
        order = (7, 0, 12, 3, 15, 9, 1, 14, 4, 11, 2, 13, 5, 10, 6, 8)
        chain = list(zip(order, order[1:]))
        self.check(16, chain, [(j, i) for i, j in chain], 1)

    def test_two_arrows_that_meet_and_two_that_do_not(self):
        self.check(3, [(0, 1), (2, 1)], [(0, 1), (1, 2)], 0)
        self.check(3, [(0, 1), (2, 1)], [(1, 0), (1, 2)], 0)
        self.check(4, CHAIN, [(0, 1), (2, 1), (2, 3)], 0)
        self.check(4, CHAIN, [(0, 1), (1, 2), (3, 2)], 0)

    def test_arrows_that_meet_in_other_places(self):
        self.check(4, [(0, 1), (2, 1), (2, 3)], [(0, 1), (1, 2), (3, 2)], 0)
        # One more meets where some met already.
        self.check(4, [(0, 3), (1, 3), (3, 2)], [(0, 3), (1, 3), (2, 3)], 0)

    def test_arrows_to_one_node_from_near_ones_do_not_meet(self):
        self.check(3, [(0, 1), (2, 1), (0, 2)], [(1, 0), (1, 2), (2, 0)], 1)
        for one, other in itertools.product(itertools.permutations(range(4)), repeat=2):
            self.assertEqual(last(graph(4, *itertools.combinations(one, 2)),
                                  same(row(itertools.combinations(other, 2)))), 1)

    def test_other_nodes_near(self):
        self.check(3, [(0, 1), (1, 2)], [(0, 1), (0, 2)], 0)
        self.check(4, [(0, 1)], [(2, 3)], 0)
        self.check(4, [(0, 2), (1, 2)], [(0, 3), (1, 3)], 0)

    def test_fewer_or_more_arrows(self):
        self.check(3, [(0, 1), (1, 2)], [(0, 1)], 0)
        self.check(3, [(0, 1), (1, 2)], [(0, 1), (1, 2), (0, 2)], 0)
        self.check(3, [(0, 1), (2, 1)], [(0, 1), (2, 1), (0, 2)], 0)
        self.check(16, [], FULL[:1], 0)

    def test_rows_of_240_numbers(self):
        self.assertEqual(len(row(FULL)), 240)
        laid = graph(16, *FULL[:50])
        backward = [(j, i) for i, j in reversed(FULL)]
        self.assertEqual(ask(*laid, *[same(row(FULL)), same(row(backward))] * 4)[-8:], [0] * 8)
        round_once = FULL[:-1] + [(15, 0)]
        twice = FULL[:-1] + FULL[:1]
        for wrong in (row(round_once), row(twice), row(FULL)[:-1] + [16], row(FULL)[:-1] + [14], [0, 1] * 120,
                      [255] * 240):
            self.assertEqual(ask(*laid, same(wrong), same(row(FULL[:50])))[-2:], [-1, 1])

    def test_the_most_arrows_that_a_line_can_make(self):
        pairs = list(itertools.combinations(range(11), 2))
        self.assertEqual(len(pairs), 55)
        self.assertEqual(ask(*graph(16, *pairs), same(row(pairs)), same(row([(j, i) for i, j in pairs])),
                             same(row(pairs[1:])))[-3:], [1, 1, 0])

    def test_an_odd_row_is_refused(self):
        for wrong in ([0], [0, 1, 0], [0, 1, 1, 2, 2], [255], [0] * 239):
            self.assertEqual(last(graph(3, (0, 1)), same(wrong)), -1)

    def test_what_is_no_node_is_refused(self):
        for n in (1, 2, 3, 15, 16):
            for wrong in (n, n + 1, 32, 128, 254, 255):
                with self.subTest(n=n, wrong=wrong):
                    self.assertEqual(last(graph(n), same([0, wrong])), -1)
                    self.assertEqual(last(graph(n), same([wrong, 0])), -1)
                    self.assertEqual(last(graph(n), same([wrong, wrong])), -1)
        self.assertEqual(last(graph(3, (0, 1)), same([0, 1, 1, 3])), -1)
        self.assertEqual(ask(*graph(4, (2, 3)), nodes(3), same([2, 3]), same([]))[-2:], [-1, 1])

    def test_the_last_node_is_taken(self):
        for n in range(2, 17):
            self.assertEqual(last(graph(n, (n - 1, 0)), same([0, n - 1])), 1)

    def test_an_arrow_to_itself_is_refused(self):
        for node in range(16):
            self.assertEqual(last(graph(16), same([node, node])), -1)
        self.assertEqual(last(graph(3, (0, 1)), same([0, 1, 2, 2])), -1)

    def test_one_told_twice_is_refused(self):
        self.assertEqual(last(graph(3, (0, 1)), same([0, 1, 0, 1])), -1)
        self.assertEqual(last(graph(3, (0, 1), (1, 2)), same([0, 1, 1, 2, 0, 1])), -1)

    def test_arrows_that_lead_round_are_refused(self):
        self.assertEqual(last(graph(3, (0, 1)), same([0, 1, 1, 0])), -1)
        self.assertEqual(last(graph(3, (0, 1), (1, 2), (0, 2)), same([0, 1, 1, 2, 2, 0])), -1)
        self.assertEqual(last(graph(4, (0, 1)), same([3, 0, 1, 2, 0, 1, 2, 3])), -1)
        ring = [(node, (node + 1) % 16) for node in range(16)]
        for start in range(16):
            self.assertEqual(last(graph(16), same(row(ring[start:] + ring[:start]))), -1)
            self.assertEqual(last(graph(16), same(row(ring[start:] + ring[:start])[:-2])), 0)

    def test_a_graph_that_can_be_but_is_far_off_is_no_refusal(self):
        self.assertEqual(last(graph(16), same(row(FULL))), 0)

    def test_every_two_graphs_of_three_nodes(self):
        every = list(all_graphs(3))
        for arrows in every:
            found = ask_in_lines(graph(3, *arrows), [same(row(others)) for others in every])
            self.assertEqual(found, [int(say_the_same(arrows, others)) for others in every], arrows)

    def test_every_two_graphs_of_four_nodes_with_the_same_near(self):
        alike = {}
        for arrows in all_graphs(4):
            alike.setdefault(frozenset(near_pairs(arrows)), []).append(arrows)
        self.assertEqual(len(alike), 64)
        for some in alike.values():
            for arrows in some:
                found = ask_in_lines(graph(4, *arrows), [same(row(others)) for others in some])
                self.assertEqual(found, [int(say_the_same(arrows, others)) for others in some], arrows)

    def test_no_nodes(self):
        for given in ([], [0, 1], [0], [0, 0], [255], [0, 1, 1, 0], [0, 1] * 120):
            self.assertEqual(ask(BEGIN, same(given)), [0, -4])
            self.assertEqual(ask(*graph(3, (0, 1)), BEGIN, same(given))[-1], -4)

    def test_changes_nothing(self):
        told = ask(*graph(3, (0, 1)), same([1, 0]), same([0, 1, 1, 2]), same([]), roots(2), roots(4), arrow(1, 2))
        self.assertEqual(told[-6:], [1, 0, 0, 3, 4, 1])

    def test_refused_changes_nothing(self):
        for wrong in ([0], [0, 1, 2], [0, 3], [255, 0], [2, 2], [1, 2, 1, 2], [1, 2, 2, 1], [1, 2, 2, 0, 0, 1]):
            with self.subTest(wrong=wrong):
                told = ask(*graph(3, (0, 1)), same(wrong), roots(2), roots(4), same([0, 1]), arrow(1, 2))
                self.assertEqual(told[-5:], [-1, 3, 4, 1, 1])
