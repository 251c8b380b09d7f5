"""Promise 4: tutte, against the sum over all sets of edges."""

import unittest
from itertools import combinations, combinations_with_replacement
from random import Random

from tests.helper import HIGHEST, LOWEST, ask, ask_graph, begin, building, edge, part_count, points
from tests.helper import some_graphs, tutte, tutte_by_sets

PATH_AND_A_POINT = (16, [(a, a + 1) for a in range(14)])
STAR = (15, [(0, a) for a in range(1, 15)])
CYCLE = (14, [(a, (a + 1) % 14) for a in range(14)])
GRID = (16, [(0, 1), (1, 2), (2, 3), (4, 5), (5, 6), (6, 7), (0, 4), (1, 5), (2, 6), (3, 7), (8, 9), (9, 10),
             (10, 8), (12, 12)])
NEARLY_COMPLETE = (6, list(combinations(range(6), 2))[:14])
WHEEL = (8, [(0, a) for a in range(1, 8)] + [(a, a % 7 + 1) for a in range(1, 8)])
LOOPS = (16, [(15, 15)] * 14)
BUNDLE = (2, [(0, 1), (1, 0)] * 7)
PAIRS = (16, [(a, a + 1) for a in range(0, 14, 2)] * 2)
MIXED = (9, [(0, 1), (1, 2), (2, 0), (0, 1), (3, 4), (4, 5), (5, 6), (6, 3), (3, 5), (7, 7), (7, 8), (8, 7), (2, 2),
             (4, 6)])


class AgainstTheSum(unittest.TestCase):
    def assert_whole_polynomial(self, n, edges):
        """Every i and j that can have a coefficient, and those one beyond."""
        polynomial = tutte_by_sets(n, edges)
        rank = n - part_count(n, edges)
        pairs = [(i, j) for i in range(min(rank + 1, 16) + 1) for j in range(len(edges) - rank + 2)]
        pairs += [(16, 0), (0, 40), (16, 40)]
        told = ask_graph(n, edges, [tutte(i, j) for i, j in pairs])
        self.assertEqual(told, [[0, polynomial.get(pair, 0)] for pair in pairs], (n, edges))
        self.assertTrue(all(answer[1] >= 0 for answer in told))

    def test_no_edges(self):
        for n in range(1, 17):
            self.assert_whole_polynomial(n, [])

    def test_every_graph_of_up_to_3_points_and_4_edges(self):
        for n in range(1, 4):
            ends = list(combinations_with_replacement(range(n), 2))
            for m in range(5):
                for edges in combinations_with_replacement(ends, m):
                    self.assert_whole_polynomial(n, edges)

    def test_every_graph_of_4_points_without_loops_or_edges_several_times(self):
        ends = list(combinations(range(4), 2))
        for m in range(len(ends) + 1):
            for edges in combinations(ends, m):
                self.assert_whole_polynomial(4, edges)

    def test_drawn_graphs(self):
        for n, edges in some_graphs(Random(1), 150, 7, 8):
            self.assert_whole_polynomial(n, edges)

    def test_drawn_graphs_of_16_points(self):
        for n, edges in some_graphs(Random(2), 12, 16, 10):
            self.assert_whole_polynomial(16, edges)

    def test_14_edges(self):
        for n, edges in (PATH_AND_A_POINT, STAR, CYCLE, GRID, NEARLY_COMPLETE, WHEEL, LOOPS, BUNDLE, PAIRS, MIXED):
            self.assertEqual(len(edges), 14)
            self.assert_whole_polynomial(n, edges)

    def test_every_i_and_j_within_the_range(self):
        n, edges = MIXED
        polynomial = tutte_by_sets(n, edges)
        pairs = [(i, j) for i in range(17) for j in range(41)]
        told = ask_graph(n, edges, [tutte(i, j) for i, j in pairs])
        self.assertEqual(told, [[0, polynomial.get(pair, 0)] for pair in pairs])

    def test_after_every_edge_of_a_line(self):
        n, edges = WHEEL
        calls = [begin(), points(n)]
        expected = [[0], [0]]
        for number, (a, b) in enumerate(edges):
            calls += [edge(a, b), tutte(1, 0)]
            expected += [[number], [0, tutte_by_sets(n, edges[:number + 1]).get((1, 0), 0)]]
        self.assertEqual(ask(*calls), expected)


class KnownPolynomials(unittest.TestCase):
    def assert_polynomial(self, n, edges, polynomial):
        pairs = [(i, j) for i in range(6) for j in range(6)]
        told = ask_graph(n, edges, [tutte(i, j) for i, j in pairs])
        self.assertEqual(told, [[0, polynomial.get(pair, 0)] for pair in pairs])

    def test_triangle(self):
        self.assert_polynomial(3, [(0, 1), (1, 2), (2, 0)], {(2, 0): 1, (1, 0): 1, (0, 1): 1})

    def test_all_edges_between_four_points(self):
        expected = {(3, 0): 1, (2, 0): 3, (1, 0): 2, (1, 1): 4, (0, 1): 2, (0, 2): 3, (0, 3): 1}
        self.assert_polynomial(4, list(combinations(range(4), 2)), expected)

    def test_a_bridge_and_a_loop(self):
        self.assert_polynomial(2, [(0, 1), (1, 1)], {(1, 1): 1})


class Refusals(unittest.TestCase):
    def setUp(self):
        self.built = building(3, [(0, 1), (1, 2), (2, 0)])

    def last_answers(self, calls):
        return ask(*self.built, *calls)[len(self.built):]

    def test_i_outside_0_to_16(self):
        wrong = [tutte(i, j) for i in (-1, 17, LOWEST, HIGHEST) for j in (0, 40)]
        self.assertEqual(self.last_answers(wrong), [[-1]] * len(wrong))

    def test_j_outside_0_to_40(self):
        wrong = [tutte(i, j) for i in (0, 16) for j in (-1, 41, LOWEST, HIGHEST)]
        self.assertEqual(self.last_answers(wrong), [[-1]] * len(wrong))

    def test_both_outside(self):
        self.assertEqual(self.last_answers([tutte(-1, -1), tutte(17, 41)]), [[-1], [-1]])

    def test_the_ends_are_within(self):
        self.assertEqual(self.last_answers([tutte(i, j) for i in (0, 16) for j in (0, 40)]), [[0, 0]] * 4)

    def test_a_refused_one_changes_nothing(self):
        told = self.last_answers([tutte(17, 0), tutte(2, 0), edge(0, 0), tutte(0, -1), tutte(2, 1)])
        self.assertEqual(told, [[-1], [0, 1], [3], [-1], [0, 1]])


if __name__ == "__main__":
    unittest.main()
