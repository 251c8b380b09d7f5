"""Promises 7 and 8: holding and forests, against sets of edges counted one by one."""

import unittest
from itertools import combinations, combinations_with_replacement
from math import comb
from random import Random

from tests.helper import HIGHEST, LOWEST, ask, ask_graph, begin, building, edge, forests, forests_one_by_one
from tests.helper import holding, holding_one_by_one, points, some_graphs

EVERY_I = range(41)
PATH_AND_A_POINT = (16, [(a, a + 1) for a in range(14)])
CYCLE = (14, [(a, (a + 1) % 14) for a in range(14)])
NEARLY_COMPLETE = (6, list(combinations(range(6), 2))[:14])
WHEEL = (8, [(0, a) for a in range(1, 8)] + [(a, a % 7 + 1) for a in range(1, 8)])
PAIRS = (16, [(a, a + 1) for a in range(0, 14, 2)] * 2)
LOOPS = (16, [(15, 15)] * 14)
BUNDLE = (2, [(0, 1), (1, 0)] * 7)
MIXED = (9, [(0, 1), (1, 2), (2, 0), (0, 1), (3, 4), (4, 5), (5, 6), (6, 3), (3, 5), (7, 7), (7, 8), (8, 7), (2, 2),
             (4, 6)])
FOURTEEN = (PATH_AND_A_POINT, CYCLE, NEARLY_COMPLETE, WHEEL, PAIRS, LOOPS, BUNDLE, MIXED)


class Sets(unittest.TestCase):
    def assert_told(self, n, edges, call, counts):
        told = ask_graph(n, edges, [call(i) for i in EVERY_I])
        self.assertEqual(told, [[0, counts[i] if i < len(counts) else 0] for i in EVERY_I], (n, edges))

    def assert_both(self, n, edges):
        self.assert_told(n, edges, holding, holding_one_by_one(n, edges))
        self.assert_told(n, edges, forests, forests_one_by_one(n, edges))


class OneByOne(Sets):
    def test_no_edges(self):
        for n in range(1, 17):
            self.assert_both(n, [])

    def test_every_graph_of_up_to_3_points_and_4_edges(self):
        for n in range(1, 4):
            ends = list(combinations_with_replacement(range(n), 2))
            for m in range(5):
                for edges in combinations_with_replacement(ends, m):
                    self.assert_both(n, edges)

    def test_every_graph_of_4_points(self):
        ends = list(combinations(range(4), 2))
        for m in range(len(ends) + 1):
            for edges in combinations(ends, m):
                self.assert_both(4, edges)

    def test_drawn_graphs(self):
        for n, edges in some_graphs(Random(7), 60, 7, 8):
            self.assert_both(n, edges)

    def test_drawn_graphs_of_16_points(self):
        for n, edges in some_graphs(Random(8), 12, 16, 10):
            self.assert_both(16, edges)

    def test_14_edges(self):
        for n, edges in FOURTEEN:
            self.assertEqual(len(edges), 14)
            self.assert_both(n, edges)


class KnownCounts(Sets):
    def test_no_edges_only_the_empty_set(self):
        for n in (1, 2, 16):
            self.assert_told(n, [], holding, [1])
            self.assert_told(n, [], forests, [1])

    def test_loops_hold_nothing_and_are_in_no_forest(self):
        for m in (1, 2, 14):
            self.assert_told(3, [(1, 1)] * m, holding, [comb(m, i) for i in range(m + 1)])
            self.assert_told(3, [(1, 1)] * m, forests, [1])

    def test_edges_between_two_points(self):
        for m in (1, 2, 14):
            self.assert_told(2, [(0, 1)] * m, holding, [0] + [comb(m, i) for i in range(1, m + 1)])
            self.assert_told(2, [(0, 1)] * m, forests, [1, m])

    def test_a_tree_holds_only_whole_and_each_of_its_sets_is_a_forest(self):
        edges = [(a // 2, a) for a in range(1, 15)]
        self.assert_told(15, edges, holding, [0] * 14 + [1])
        self.assert_told(15, edges, forests, [comb(14, i) for i in range(15)])

    def test_a_cycle(self):
        self.assert_told(*CYCLE, holding, [0] * 13 + [14, 1])
        self.assert_told(*CYCLE, forests, [comb(14, i) for i in range(14)])

    def test_all_edges_between_four_points(self):
        edges = list(combinations(range(4), 2))
        self.assert_told(4, edges, holding, [0, 0, 0, 16, 15, 6, 1])
        self.assert_told(4, edges, forests, [1, 6, 15, 16])

    def test_holding_means_as_many_parts_as_all_edges_not_one_part(self):
        self.assert_told(5, [(0, 1), (0, 1), (2, 3)], holding, [0, 0, 2, 1])


class Refusals(unittest.TestCase):
    def test_i_outside_0_to_40(self):
        for edges in ([], [(0, 1)], [(0, 1), (1, 1)]):
            for i in (-1, 41, -40, LOWEST, HIGHEST):
                self.assertEqual(ask_graph(2, edges, [holding(i), forests(i)]), [[-1], [-1]], (edges, i))

    def test_the_ends_are_within(self):
        for edges, held, forest in (([], 1, 1), ([(0, 1)], 0, 1), ([(1, 1)], 1, 1)):
            told = ask_graph(2, edges, [holding(0), holding(40), forests(0), forests(40)])
            self.assertEqual(told, [[0, held], [0, 0], [0, forest], [0, 0]], edges)

    def test_a_refused_one_changes_nothing(self):
        built = building(2, [(0, 1)])
        told = ask(*built, holding(41), holding(1), forests(-1), forests(1), edge(1, 0), holding(-1), holding(1),
                   forests(41), forests(1))
        self.assertEqual(told[3:], [[-1], [0, 1], [-1], [0, 1], [1], [-1], [0, 2], [-1], [0, 2]])


class FortyEdges(Sets):
    """No line within its limits gets there; the words name up to 40 edges all the same."""

    def test_sets_of_40_edges(self):
        self.assert_told(1, [(0, 0)] * 40, holding, [comb(40, i) for i in range(41)])
        self.assert_told(2, [(0, 1)] * 40, forests, [1, 40])


class AmongOtherCalls(unittest.TestCase):
    def test_after_every_edge_of_a_line(self):
        told = ask(begin(), points(3), holding(2), forests(2), edge(0, 1), holding(2), forests(2), edge(1, 2),
                   holding(2), forests(2), edge(2, 0), holding(2), forests(2), edge(1, 1), holding(2), forests(2),
                   points(3), holding(2), forests(2))
        counts = [answer[1] for answer in told if len(answer) == 2]
        self.assertEqual(counts, [0, 0, 0, 0, 1, 1, 3, 3, 3, 3, 0, 0])

    def test_a_new_part_changes_which_sets_hold(self):
        told = ask(begin(), points(4), edge(0, 1), holding(1), edge(2, 3), holding(1), holding(2), edge(1, 2),
                   holding(2), holding(3))
        self.assertEqual(told[2:], [[0], [0, 1], [1], [0, 0], [0, 1], [2], [0, 0], [0, 1]])


if __name__ == "__main__":
    unittest.main()
