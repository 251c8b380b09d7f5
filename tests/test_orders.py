"""Promise 9: orders, against orders tried one by one and against known counts."""

import unittest
from itertools import combinations, combinations_with_replacement
from math import factorial
from random import Random

from tests.helper import ask, ask_graph, begin, edge, orders, orders_one_by_one, points, some_graphs

CYCLE = (14, [(a, (a + 1) % 14) for a in range(14)])
NEARLY_COMPLETE = (6, list(combinations(range(6), 2))[:14])
WHEEL = (8, [(0, a) for a in range(1, 8)] + [(a, a % 7 + 1) for a in range(1, 8)])
PAIRS = (16, [(a, a + 1) for a in range(0, 14, 2)] * 2)
BUNDLE = (2, [(0, 1), (1, 0)] * 7)
SEVERAL_PARTS = (16, [(0, 1), (1, 2), (2, 0), (0, 1), (3, 4), (4, 5), (5, 6), (6, 3), (3, 5), (7, 8), (8, 7), (4, 6),
                      (9, 10), (12, 15)])
WITH_A_LOOP = (15, [(a, a + 1) for a in range(13)] + [(14, 14)])
FOURTEEN = (CYCLE, NEARLY_COMPLETE, WHEEL, PAIRS, BUNDLE, SEVERAL_PARTS, WITH_A_LOOP)


class Orders(unittest.TestCase):
    def assert_count(self, n, edges, count):
        self.assertEqual(ask_graph(n, edges, [orders()]), [[0, count]], (n, edges))


class OneByOne(Orders):
    def assert_tried(self, n, edges):
        self.assert_count(n, edges, orders_one_by_one(n, edges))

    def test_every_graph_of_up_to_3_points_and_4_edges(self):
        for n in range(1, 4):
            ends = list(combinations_with_replacement(range(n), 2))
            for m in range(5):
                for edges in combinations_with_replacement(ends, m):
                    self.assert_tried(n, edges)

    def test_every_graph_of_4_points(self):
        ends = list(combinations(range(4), 2))
        for m in range(len(ends) + 1):
            for edges in combinations(ends, m):
                self.assert_tried(4, edges)

    def test_drawn_graphs(self):
        for n, edges in some_graphs(Random(9), 100, 6, 8):
            self.assert_tried(n, edges)

    def test_drawn_graphs_without_loops(self):
        for n, edges in some_graphs(Random(10), 100, 7, 9):
            self.assert_tried(n, [(a, b) for a, b in edges if a != b])

    def test_14_edges(self):
        for n, edges in FOURTEEN:
            self.assertEqual(len(edges), 14)
            self.assert_tried(n, edges)


class KnownCounts(Orders):
    def test_no_edges_one_order(self):
        for n in range(1, 17):
            self.assert_count(n, [], 1)

    def test_with_a_loop_there_are_none(self):
        self.assert_count(1, [(0, 0)], 0)
        self.assert_count(1, [(0, 0)] * 2, 0)
        self.assert_count(16, [(0, 1), (1, 2), (15, 15)], 0)
        self.assert_count(*WITH_A_LOOP, 0)

    def test_trees(self):
        for n in range(2, 16):
            self.assert_count(n, [(a // 2, a) for a in range(1, n)], 2 ** (n - 1))

    def test_cycles_whichever_end_is_told_first(self):
        for n in range(2, 15):
            self.assert_count(n, [(a, (a + 1) % n) for a in range(n)], 2 ** n - 2)
            self.assert_count(n, [(min(a, (a + 1) % n), max(a, (a + 1) % n)) for a in range(n)], 2 ** n - 2)

    def test_edges_between_two_points_go_one_way(self):
        for m in range(1, 15):
            self.assert_count(2, [(0, 1)] * m, 2)
        self.assert_count(*BUNDLE, 2)
        self.assert_count(*PAIRS, 2 ** 7)

    def test_all_edges_between_points(self):
        for n in range(2, 6):
            self.assert_count(n, list(combinations(range(n), 2)), factorial(n))

    def test_parts_are_multiplied(self):
        self.assert_count(9, [(0, 1), (1, 2), (2, 0), (4, 5), (5, 6), (6, 4), (7, 8)], 6 * 6 * 2)


class AmongOtherCalls(unittest.TestCase):
    def test_after_every_edge_of_a_line(self):
        told = ask(begin(), orders(), points(3), orders(), edge(0, 1), orders(), edge(1, 2), orders(), edge(2, 0),
                   orders(), edge(2, 1), orders(), edge(1, 1), orders(), points(2), orders(), begin(), orders())
        self.assertEqual(told[1::2], [[-4], [0, 1], [0, 2], [0, 4], [0, 6], [0, 6], [0, 0], [0, 1], [-4]])

    def test_a_refused_edge_changes_nothing(self):
        told = ask(begin(), points(2), edge(0, 1), orders(), edge(2, 2), orders(), edge(0, -1), orders())
        self.assertEqual(told[2:], [[0], [0, 2], [-1], [0, 2], [-1], [0, 2]])


if __name__ == "__main__":
    unittest.main()
