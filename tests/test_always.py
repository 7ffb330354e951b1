"""Point 9: always."""

import itertools
import unittest

from tests.graphs import all_graphs, some_graph, table, table_by_labels, table_one_by_one
from tests.lines import ALWAYS, BEGIN, arrow, ask, graph, last_table, nodes, roots, told_by_calls


class Always(unittest.TestCase):

    def check(self, n, arrows, always):
        self.assertEqual(last_table(graph(n, *arrows)), table(arrows, set(always)))

    def check_places(self, n, arrows, places):
        expected = [0] * 256
        for place, number in places.items():
            expected[place] = number
        self.assertEqual(last_table(graph(n, *arrows)), expected)

    def test_no_arrows(self):
        for n in range(1, 17):
            self.check_places(n, [], {})

    def test_one_arrow(self):
        self.check_places(2, [(0, 1)], {1: 3, 16: 3})
        self.check_places(2, [(1, 0)], {1: 3, 16: 3})
        self.check_places(16, [(15, 14)], {16 * 15 + 14: 3, 16 * 14 + 15: 3})

    def test_a_chain(self):
        self.check_places(3, [(0, 1), (1, 2)], {1: 3, 16: 3, 18: 3, 33: 3})
        self.check(4, [(3, 1), (1, 0), (0, 2)], [])

    def test_two_arrows_that_meet(self):
        self.check_places(3, [(0, 2), (1, 2)], {2: 1, 16 + 2: 1, 32: 2, 32 + 1: 2})
        self.check_places(16, [(15, 0), (3, 0)], {240: 1, 48: 1, 15: 2, 3: 2})

    def test_near_ones_do_not_meet(self):
        self.check(3, [(0, 2), (1, 2), (0, 1)], [])

    def test_some_lead_always_and_others_do_not(self):
        self.check(5, [(0, 2), (1, 2), (3, 4)], [(0, 2), (1, 2)])
        self.check(5, [(0, 2), (1, 2), (3, 0), (4, 3)], [(0, 2), (1, 2)])
        # From 0 and 1, near to each other, and from 3: all that lead to 2.
        self.check(4, [(0, 1), (0, 2), (1, 2), (3, 2)], [(0, 2), (1, 2), (3, 2)])

    def test_others_would_meet_otherwise(self):
        self.check(4, [(0, 2), (1, 2), (2, 3)], [(0, 2), (1, 2), (2, 3)])

    def test_others_would_meet_otherwise_in_several_steps(self):
        arrows = [(0, 2), (1, 2), (2, 7), (7, 3), (3, 6), (6, 4), (4, 5)]
        self.check(8, arrows, arrows)
        order = (9, 1, 15, 0, 12, 3, 14, 2, 8, 5, 13, 4, 11, 6, 10, 7)
        arrows = [(9, 15), (1, 15)] + list(zip(order[2:], order[3:]))
        self.check(16, arrows, arrows)

    def test_others_would_lead_round_otherwise(self):
        # 0 to 2 meets no arrow: but 0 leads to 1 and 1 to 2, always.
        arrows = [(0, 1), (3, 1), (1, 2), (0, 2)]
        self.check(4, arrows, arrows)

    def test_others_would_lead_round_otherwise_in_several_steps(self):
        arrows = [(0, 1), (4, 1), (1, 2), (0, 2), (2, 3), (0, 3)]
        self.check(5, arrows, arrows)

    def test_two_others_would_have_to_meet_otherwise(self):
        # Turned round, 0 to 1 would make both 2 and 3 lead to 0.
        arrows = [(2, 1), (3, 1), (0, 1), (0, 2), (0, 3)]
        self.check(4, arrows, [(2, 1), (3, 1), (0, 1)])
        arrows = [(2, 1), (3, 1), (0, 1), (2, 0), (0, 3)]
        self.check(4, arrows, [(2, 1), (3, 1), (0, 1)])

    def test_two_others_and_then_on_from_there(self):
        arrows = [(2, 1), (3, 1), (0, 1), (0, 2), (0, 3), (1, 4), (4, 5)]
        self.check(6, arrows, [(2, 1), (3, 1), (0, 1), (1, 4), (4, 5)])

    def test_every_graph_of_up_to_four_nodes(self):
        count = 0
        for n in (1, 2, 3, 4):
            for arrows in all_graphs(n):
                count += 1
                self.assertEqual(last_table(graph(n, *arrows)), table_one_by_one(arrows), arrows)
        self.assertEqual(count, 1 + 3 + 25 + 543)

    def test_graphs_of_five_and_six_nodes(self):
        for n, count in ((5, 6), (5, 7), (5, 8), (6, 7), (6, 8), (6, 9)):
            for seed in range(10):
                arrows = some_graph(n, count, seed)
                expected = table_one_by_one(arrows)
                self.assertEqual(last_table(graph(n, *arrows)), expected, arrows)
                self.assertEqual(table_by_labels(n, arrows), expected, arrows)

    def test_sixteen_nodes_against_another_way(self):
        for count in (15, 20, 25, 30, 35, 40, 45, 50, 57):
            for seed in range(20):
                arrows = some_graph(16, count, seed)
                self.assertEqual(last_table(graph(16, *arrows)), table_by_labels(16, arrows), arrows)

    def test_few_nodes_with_many_arrows_against_another_way(self):
        for n in (7, 8, 9, 10, 11):
            most = n * (n - 1) // 2
            for count in range(most - 10, most + 1):
                for seed in range(3):
                    arrows = some_graph(n, count, seed)
                    self.assertEqual(last_table(graph(n, *arrows)), table_by_labels(n, arrows), arrows)

    def test_as_many_arrows_as_a_line_can_make(self):
        full = list(itertools.combinations(range(15, 4, -1), 2))
        self.check(16, full, [])
        # 57 arrows from 8 nodes to 8 others: all of them meet.
        across = [(i, j) for i in range(8) for j in range(8, 16)][:57]
        self.check(16, across, across)

    def test_many_times_in_one_list(self):
        arrows = some_graph(16, 30, 5)
        found = told_by_calls(*graph(16, *arrows), *[ALWAYS] * 28)
        self.assertEqual(found[-28:], [[0] + table_by_labels(16, arrows)] * 28)
        self.assertEqual(told_by_calls(*graph(16), *[ALWAYS] * 58)[-58:], [[0] * 257] * 58)

    def test_behind_each_arrow(self):
        arrows = some_graph(16, 29, 3)
        calls = [call for pair in arrows for call in (arrow(*pair), ALWAYS)]
        found = told_by_calls(*graph(16), *calls)
        for count in range(1, 30):
            self.assertEqual(found[1 + 2 * count], [0] + table_by_labels(16, arrows[:count]))

    def test_places_of_nodes_that_there_are_not(self):
        for n in range(1, 16):
            pairs = list(itertools.combinations(range(n), 2))[:57]
            found = last_table(graph(n, *pairs))
            for i, j in itertools.product(range(16), repeat=2):
                if i >= n or j >= n or i == j:
                    self.assertEqual(found[16 * i + j], 0)
        found = told_by_calls(*graph(16, (14, 15), (13, 15)), nodes(2), ALWAYS, arrow(0, 1), ALWAYS)
        self.assertEqual(found[-3], [0] * 257)
        self.assertEqual(found[-1][1:], table([(0, 1)], set()))

    def test_no_nodes(self):
        self.assertEqual(ask(BEGIN, ALWAYS), [0, -4])
        self.assertEqual(ask(*graph(3, (0, 1)), BEGIN, ALWAYS)[-1], -4)
        self.assertEqual(ask(BEGIN, nodes(0), ALWAYS, nodes(17), ALWAYS), [0, -1, -4, -1, -4])

    def test_changes_nothing(self):
        found = told_by_calls(*graph(4, (0, 1), (2, 1)), ALWAYS, roots(2), roots(4), arrow(0, 2), ALWAYS, arrow(0, 3))
        self.assertEqual(found[-5:-2], [[7], [4], [2]])
        self.assertEqual(found[-2][1:], table([(0, 1), (2, 1), (0, 2)], set()))
        self.assertEqual(found[-1], [3])
