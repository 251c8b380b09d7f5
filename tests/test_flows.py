"""Promise 6: flows, against flows counted one by one and against known counts."""

import unittest
from itertools import combinations, combinations_with_replacement
from random import Random

from tests.helper import HIGHEST, LOWEST, ask, ask_graph, begin, building, edge, flows, flows_edge_by_edge
from tests.helper import flows_one_by_one, points, some_graphs, thirty_two_bytes

EVERY_K = range(1, 65)
NONE = [0] + [0] * 32
CYCLE = (14, [(a, (a + 1) % 14) for a in range(14)])
CYCLE_TOLD_TO_AND_FRO = (14, [(a, (a + 1) % 14) if a % 3 else ((a + 1) % 14, a) for a in range(14)])
BUNDLE = (2, [(0, 1), (1, 0)] * 7)
NEARLY_COMPLETE = (6, list(combinations(range(6), 2))[:14])
WHEEL = (8, [(0, a) for a in range(1, 8)] + [(a, a % 7 + 1) for a in range(1, 8)])
PAIRS = (16, [(a, a + 1) for a in range(0, 14, 2)] * 2)
LOOPS = (16, [(15, 15)] * 14)
MIXED = (9, [(0, 1), (1, 2), (2, 0), (0, 1), (3, 4), (4, 5), (5, 6), (6, 3), (3, 5), (7, 7), (7, 8), (8, 7), (2, 2),
             (4, 6)])
FOURTEEN = (CYCLE, CYCLE_TOLD_TO_AND_FRO, BUNDLE, NEARLY_COMPLETE, WHEEL, PAIRS, LOOPS, MIXED)


class Flows(unittest.TestCase):
    def assert_counts(self, n, edges, ks, count):
        told = ask_graph(n, edges, [flows(k) for k in ks])
        self.assertEqual(told, [[0] + thirty_two_bytes(count(k)) for k in ks], (n, edges))


class OneByOne(Flows):
    def assert_small(self, n, edges, highest):
        self.assert_counts(n, edges, range(1, highest + 1), lambda k: flows_one_by_one(n, edges, k))

    def test_every_graph_of_up_to_3_points_and_4_edges(self):
        for n in range(1, 4):
            ends = list(combinations_with_replacement(range(n), 2))
            for m in range(5):
                for edges in combinations_with_replacement(ends, m):
                    self.assert_small(n, edges, 4)

    def test_every_graph_of_4_points(self):
        ends = list(combinations(range(4), 2))
        for m in range(len(ends) + 1):
            for edges in combinations(ends, m):
                self.assert_small(4, edges, 4)

    def test_drawn_graphs(self):
        for n, edges in some_graphs(Random(5), 60, 5, 6):
            self.assert_small(n, edges, 4)

    def test_drawn_graphs_of_16_points(self):
        for n, edges in some_graphs(Random(6), 20, 5, 6):
            self.assert_small(16, edges, 3)

    def test_loops_and_edges_several_times_in_several_parts(self):
        self.assert_small(7, [(0, 0), (1, 2), (2, 1), (1, 2), (5, 6), (6, 5)], 5)

    def test_few_edges_and_larger_k(self):
        self.assert_small(3, [(0, 1), (1, 2), (0, 2)], 12)
        self.assert_small(2, [(0, 1), (0, 1), (1, 0)], 12)

    def test_all_edges_between_four_points(self):
        self.assert_small(4, list(combinations(range(4), 2)), 6)

    def test_14_edges(self):
        for n, edges in FOURTEEN:
            self.assertEqual(len(edges), 14)
            self.assert_small(n, edges, 3)


class EveryK(Flows):
    def test_no_edges_one_flow(self):
        for n in (1, 2, 7, 16):
            self.assert_counts(n, [], EVERY_K, lambda k: 1)

    def test_loops(self):
        for m in range(1, 15):
            self.assert_counts(1, [(0, 0)] * m, EVERY_K, lambda k: (k - 1) ** m)

    def test_cycles_whichever_end_is_told_first(self):
        for n, edges in (CYCLE, CYCLE_TOLD_TO_AND_FRO, (2, [(0, 1), (0, 1)]), (2, [(0, 1), (1, 0)])):
            self.assert_counts(n, edges, EVERY_K, lambda k: k - 1)

    def test_cycles_in_several_parts(self):
        self.assert_counts(*PAIRS, EVERY_K, lambda k: (k - 1) ** 7)

    def test_edges_between_two_points(self):
        for m in range(1, 15):
            self.assert_counts(2, [(0, 1)] * m, EVERY_K, lambda k: ((k - 1) ** m + (-1) ** m * (k - 1)) // k)

    def test_three_edges_between_two_points(self):
        self.assert_counts(2, [(0, 1)] * 3, EVERY_K, lambda k: (k - 1) * (k - 2))

    def test_an_edge_that_no_round_goes_through(self):
        triangles = [(0, 1), (1, 2), (2, 0), (3, 4), (4, 5), (5, 3)]
        self.assert_counts(6, triangles, EVERY_K, lambda k: (k - 1) ** 2)
        self.assert_counts(6, triangles + [(0, 3)], EVERY_K, lambda k: 0)
        self.assert_counts(6, triangles + [(0, 3), (4, 4)], EVERY_K, lambda k: 0)
        self.assert_counts(2, [(0, 1)], EVERY_K, lambda k: 0)
        self.assert_counts(16, [(a, a + 1) for a in range(14)], EVERY_K, lambda k: 0)

    def test_14_edges(self):
        for n, edges in FOURTEEN:
            self.assert_counts(n, edges, (1, 2, 3, 5, 63, 64), lambda k: flows_edge_by_edge(edges, k))

    def test_k_1_as_soon_as_there_is_an_edge(self):
        told = ask(begin(), points(4), flows(1), edge(0, 1), flows(1), edge(1, 0), flows(1), edge(3, 3), flows(1))
        self.assertEqual(told, [[0], [0], [0, 1] + [0] * 31, [0], NONE, [1], NONE, [2], NONE])

    def test_the_bytes_go_up_from_the_lowest(self):
        self.assertEqual(ask_graph(1, [(0, 0)] * 4, [flows(17), flows(64)]),
                         [[0, 0, 0, 1] + [0] * 29, [0, 1, 95, 240] + [0] * 29])

    def test_always_0_and_32_numbers_from_0_to_255(self):
        for n, edges in FOURTEEN + ((16, []), (2, [(0, 1)])):
            for answer in ask_graph(n, edges, [flows(k) for k in EVERY_K]):
                self.assertEqual((len(answer), answer[0]), (33, 0))
                self.assertTrue(all(0 <= byte <= 255 for byte in answer[1:]))


class Refusals(unittest.TestCase):
    def test_k_outside_1_to_64(self):
        for edges in ([], [(0, 1)], [(0, 1), (1, 0), (1, 1)]):
            for k in (0, 65, -1, -64, LOWEST, HIGHEST):
                self.assertEqual(ask_graph(2, edges, [flows(k)]), [[-1]], (edges, k))

    def test_the_ends_are_within(self):
        self.assertEqual(ask_graph(1, [(0, 0)], [flows(1), flows(64)]), [NONE, [0, 63] + [0] * 31])

    def test_a_refused_one_changes_nothing(self):
        built = building(2, [(0, 1), (0, 1)])
        told = ask(*built, flows(0), flows(5), edge(1, 0), flows(65), flows(5))
        self.assertEqual(told[4:], [[-1], [0] + thirty_two_bytes(4), [2], [-1], [0] + thirty_two_bytes(12)])


class AmongOtherCalls(unittest.TestCase):
    def test_after_every_edge_of_a_line(self):
        told = ask(begin(), points(3), flows(4), edge(0, 1), flows(4), edge(1, 2), flows(4), edge(2, 0), flows(4),
                   edge(1, 1), flows(4), edge(0, 2), flows(4), points(3), flows(4))
        counts = [answer[1:] for answer in told if len(answer) > 1]
        self.assertEqual(counts, [thirty_two_bytes(count) for count in (1, 0, 0, 3, 9, 18, 1)])


if __name__ == "__main__":
    unittest.main()
