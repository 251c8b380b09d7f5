"""Promise 10: parts."""

import time
import unittest
from itertools import combinations, permutations
from random import Random

from tests.helper import ask, ask_graph, begin, building, colourings, edge, flat, flows, forests, holding, orders
from tests.helper import part_count, parts, points, some_graphs, tutte

SECONDS_FOR_A_LINE = 10


class HowMany(unittest.TestCase):
    def assert_parts(self, n, edges, how_many):
        self.assertEqual(ask_graph(n, edges, [parts()]), [[how_many]], (n, edges))

    def test_no_edges_as_many_as_points(self):
        for n in range(1, 17):
            self.assert_parts(n, [], n)

    def test_loops_join_nothing(self):
        for n in range(1, 17):
            self.assert_parts(n, [(a, a) for a in range(min(n, 14))], n)

    def test_edges_several_times_join_once(self):
        for n in (2, 3, 16):
            self.assert_parts(n, [(0, 1)] * 14, n - 1)
            self.assert_parts(n, [(0, 1), (1, 0)] * 7, n - 1)

    def test_one_part(self):
        for n in range(1, 16):
            self.assert_parts(n, [(a, a + 1) for a in range(n - 1)], 1)
            self.assert_parts(n, [(a, n - 1) for a in reversed(range(n - 1))], 1)

    def test_several_parts(self):
        self.assert_parts(16, [(a, a + 1) for a in range(14)], 2)
        self.assert_parts(16, [(a, a + 1) for a in range(0, 16, 2)], 8)
        self.assert_parts(9, [(0, 1), (1, 2), (2, 0), (4, 5), (5, 6), (6, 4), (8, 8)], 5)

    def test_edges_in_every_order_and_direction(self):
        for edges in permutations([(0, 1), (2, 3), (4, 5), (1, 2), (3, 4)]):
            self.assert_parts(7, edges, 2)
            self.assert_parts(7, [(b, a) for a, b in edges], 2)

    def test_every_graph_of_4_points(self):
        ends = list(combinations(range(4), 2))
        for m in range(len(ends) + 1):
            for edges in combinations(ends, m):
                self.assert_parts(4, edges, part_count(4, edges))

    def test_drawn_graphs(self):
        for n, edges in some_graphs(Random(11), 300, 16, 14):
            self.assert_parts(n, edges, part_count(n, edges))


class AtAnyTime(unittest.TestCase):
    def test_minus_4_where_there_is_no_graph(self):
        told = ask(begin(), parts(), points(0), parts(), points(2), parts(), begin(), parts())
        self.assertEqual(told, [[0], [-4], [-1], [-4], [0], [2], [0], [-4]])

    def test_between_edges(self):
        calls = [begin(), points(16)]
        for a in range(14):
            calls += [parts(), edge(a, a + 1), parts()]
        told = ask(*calls, parts(), parts())
        self.assertEqual(told[2::3], [[16 - a] for a in range(14)] + [[2]])
        self.assertEqual(told[4::3], [[15 - a] for a in range(14)])

    def test_a_refused_edge_joins_nothing(self):
        told = ask(begin(), points(2), edge(0, 2), parts(), edge(0, 1), parts(), edge(-1, 1), parts())
        self.assertEqual(told[2:], [[-1], [2], [0], [1], [-1], [1]])

    def test_between_questions_of_every_kind(self):
        questions = [tutte(1, 0), colourings(3), flows(3), holding(2), forests(2), orders(), tutte(17, 0), flows(0)]
        calls = building(5, [(0, 1), (1, 2), (2, 0)])
        for question in questions:
            calls += [parts(), question]
        self.assertEqual(ask(*calls)[5::2], [[3]] * len(questions))

    def test_58_times(self):
        self.assertEqual(ask(begin(), points(16), *[parts()] * 58)[2:], [[16]] * 58)

    def test_44_times_behind_14_edges(self):
        built = building(16, [(a, a + 1) for a in range(14)])
        started = time.monotonic()
        told = ask(*built, *[parts()] * 44)
        self.assertLess(time.monotonic() - started, SECONDS_FOR_A_LINE)
        self.assertEqual(len(flat(told)), 60)
        self.assertEqual(told[16:], [[2]] * 44)


if __name__ == "__main__":
    unittest.main()
