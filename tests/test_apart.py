"""Point 4: apart."""

import itertools
import unittest

from arrowgraph.desk import answers
from tests.graphs import all_graphs, apart_by_ways
from tests.lines import HIGHEST, HIGHEST_SET, apart, arrow, ask, graph, last, line, nodeset


def all_triples(n):
    for places in itertools.product(range(4), repeat=n):
        sets = [{node for node in range(n) if places[node] == k} for k in range(3)]
        if sets[0] and sets[1]:
            yield sets


class Apart(unittest.TestCase):

    def check(self, laid, first, second, third, expected):
        self.assertEqual(last(laid, apart(nodeset(*first), nodeset(*second), nodeset(*third))), expected)
        self.assertEqual(last(laid, apart(nodeset(*second), nodeset(*first), nodeset(*third))), expected)

    def test_no_arrows(self):
        self.check(graph(2), [0], [1], [], 1)
        self.check(graph(3), [0], [1], [2], 1)
        self.check(graph(16), range(8), range(8, 16), [], 1)

    def test_one_arrow(self):
        self.check(graph(2, (0, 1)), [0], [1], [], 0)
        self.check(graph(3, (0, 1)), [0], [1], [2], 0)

    def test_chain(self):
        laid = graph(4, (0, 1), (1, 2), (2, 3))
        self.check(laid, [0], [2], [], 0)
        self.check(laid, [0], [2], [1], 1)
        self.check(laid, [0], [2], [3], 0)
        self.check(laid, [0], [3], [1], 1)
        self.check(laid, [0], [3], [2], 1)
        self.check(laid, [0], [3], [1, 2], 1)

    def test_two_arrows_from_one_node(self):
        laid = graph(4, (1, 0), (1, 2), (0, 3))
        self.check(laid, [0], [2], [], 0)
        self.check(laid, [0], [2], [1], 1)
        self.check(laid, [0], [2], [3], 0)
        self.check(laid, [3], [2], [0], 1)

    def test_two_arrows_that_lead_to_one_node(self):
        laid = graph(3, (0, 1), (2, 1))
        self.check(laid, [0], [2], [], 1)
        self.check(laid, [0], [2], [1], 0)

    def test_a_node_come_to_from_where_two_arrows_lead(self):
        laid = graph(6, (0, 1), (2, 1), (1, 3), (3, 4))
        self.check(laid, [0], [2], [], 1)
        self.check(laid, [0], [2], [3], 0)
        self.check(laid, [0], [2], [4], 0)
        self.check(laid, [0], [2], [5], 1)
        self.check(laid, [0], [2], [1, 4], 0)
        self.check(laid, [0], [4], [1], 1)

    def test_what_is_asked_of_opens_a_meeting_too(self):
        # 3 stands below the meeting, so with 3 asked of, 0 and 2 are linked.
        laid = graph(4, (0, 1), (2, 1), (1, 3))
        self.check(laid, [0], [2, 3], [1], 0)
        self.check(laid, [0, 3], [2], [1], 0)

    def test_a_meeting_that_must_be_gone_through(self):
        # Known, the meeting in the middle opens the way; 0 or 3 shut it again.
        laid = graph(5, (0, 1), (0, 2), (3, 2), (3, 4))
        self.check(laid, [1], [4], [], 1)
        self.check(laid, [1], [4], [2], 0)
        self.check(laid, [1], [4], [0, 2], 1)
        self.check(laid, [1], [4], [2, 3], 1)

    def test_three_that_lead_to_one(self):
        laid = graph(4, (0, 3), (1, 3), (2, 3))
        self.check(laid, [0], [1], [2], 1)
        self.check(laid, [0], [1], [3], 0)
        self.check(laid, [0], [2], [1, 3], 0)

    def test_sets_of_several_nodes(self):
        laid = graph(6, (0, 2), (1, 2), (2, 3), (3, 4), (3, 5))
        self.check(laid, [0, 1], [4, 5], [2], 1)
        self.check(laid, [0, 1], [4, 5], [3], 1)
        self.check(laid, [0, 1], [4, 5], [], 0)
        self.check(laid, [0, 1, 2], [4], [3, 5], 1)
        self.check(laid, [0], [1], [], 1)
        self.check(laid, [0], [1], [4, 5], 0)
        self.check(graph(4, (0, 3)), [0, 1], [2, 3], [], 0)
        self.check(graph(4, (1, 2)), [0, 1], [2, 3], [], 0)

    def test_sixteen_nodes(self):
        chain = graph(16, *zip(range(15), range(1, 16)))
        self.check(chain, [0], [15], [], 0)
        for middle in range(1, 15):
            self.check(chain, [0], [15], [middle], 1)
        zigzag = graph(16, *[(i, i + 1) if i % 2 else (i + 1, i) for i in range(15)])
        self.check(zigzag, [0], [15], range(1, 15), 1)
        self.check(zigzag, [0], [15], range(2, 15, 2), 0)
        self.check(zigzag, [0], [15], range(2, 13, 2), 1)

    def test_what_is_no_set_is_refused(self):
        for n in (2, 3, 15, 16):
            for wrong in (1 << n, (1 << n) + 4, 1 << 16, 1 << 31, HIGHEST + 1, HIGHEST_SET, HIGHEST_SET - 3):
                with self.subTest(n=n, wrong=wrong):
                    self.assertEqual(last(graph(n), apart(wrong, 2, 0)), -1)
                    self.assertEqual(last(graph(n), apart(1, wrong, 0)), -1)
                    self.assertEqual(last(graph(n), apart(1, 2, wrong)), -1)

    def test_a_node_in_common_is_refused(self):
        laid = graph(4, (0, 1))
        for sets in ((1, 1, 0), (3, 2, 0), (1, 2, 1), (1, 2, 2), (1, 2, 3), (5, 2, 4), (1, 10, 8), (15, 15, 15),
                     (1, 3, 4), (1, 6, 6)):
            with self.subTest(sets=sets):
                self.assertEqual(last(laid, apart(*sets)), -1)

    def test_an_empty_first_or_second_is_refused(self):
        laid = graph(4, (0, 1))
        for sets in ((0, 1, 0), (1, 0, 0), (0, 0, 0), (0, 1, 2), (1, 0, 2), (0, 0, 1)):
            with self.subTest(sets=sets):
                self.assertEqual(last(laid, apart(*sets)), -1)

    def test_one_node_alone(self):
        for sets in itertools.product((0, 1), repeat=3):
            self.assertEqual(last(graph(1), apart(*sets)), -1)

    def test_changes_nothing(self):
        told = ask(*graph(3, (0, 1), (2, 1)), apart(1, 4, 2), apart(1, 4, 0), apart(1, 8, 0), apart(1, 4, 2),
                   arrow(0, 2))
        self.assertEqual(told[-5:], [0, 1, -1, 0, 2])

    def check_all(self, n, arrows, triples):
        start = line(*graph(n, *arrows))
        room = 60 - 2 - len(arrows)
        for some in range(0, len(triples), room):
            part = triples[some:some + room]
            told = answers(start + line(*[apart(*[nodeset(*nodes) for nodes in sets]) for sets in part]))
            expected = [int(apart_by_ways(arrows, *sets)) for sets in part]
            self.assertEqual(told[1::2][-len(part):], expected, (arrows, part))

    def test_every_graph_of_up_to_three_nodes(self):
        for n in (2, 3):
            for arrows in all_graphs(n):
                self.check_all(n, arrows, list(all_triples(n)))

    def test_every_graph_of_four_nodes(self):
        graphs = list(all_graphs(4))
        self.assertEqual(len(graphs), 543)
        triples = list(all_triples(4))
        for arrows in graphs:
            self.check_all(4, arrows, triples)

    def test_graphs_of_six_nodes(self):
        pairs = list(itertools.combinations(range(6), 2))
        names = (3, 0, 5, 1, 4, 2)
        triples = []
        for i, j in ((3, 2), (0, 4), (5, 2)):
            for many in range(0, 64, 5):
                triples.append(({i}, {j}, {k for k in range(6) if k not in (i, j) and many >> k & 1}))
        for many in range(0, 1 << 15, 331):
            arrows = [(names[i], names[j]) for place, (i, j) in enumerate(pairs) if many >> place & 1]
            self.check_all(6, arrows, triples)
