"""Promise 5: colourings, against colourings counted one by one and against known counts."""

import unittest
from itertools import combinations
from random import Random

from tests.helper import HIGHEST, LOWEST, ask, ask_graph, begin, building, colourings, colourings_one_by_one, edge
from tests.helper import points, some_graphs, thirty_two_bytes

LARGE = (2, 3, 255, 256, 257, 4095, 32768, 65535, 65536)


class OneByOne(unittest.TestCase):
    def assert_counts(self, n, edges, most_colours):
        counts = [colourings_one_by_one(n, edges, k) for k in range(most_colours + 1)]
        told = ask_graph(n, edges, [colourings(k) for k in range(most_colours + 1)])
        self.assertEqual(told, [[0] + thirty_two_bytes(count) for count in counts], (n, edges))

    def test_every_graph_of_4_points(self):
        ends = list(combinations(range(4), 2))
        for m in range(len(ends) + 1):
            for edges in combinations(ends, m):
                self.assert_counts(4, edges, 4)

    def test_drawn_graphs(self):
        for n, edges in some_graphs(Random(3), 100, 5, 8):
            self.assert_counts(n, edges, 4)

    def test_drawn_graphs_without_loops(self):
        for n, edges in some_graphs(Random(4), 100, 5, 10):
            self.assert_counts(n, [(a, b) for a, b in edges if a != b], 4)

    def test_14_edges(self):
        self.assert_counts(6, list(combinations(range(6), 2))[:14], 5)
        self.assert_counts(8, [(a, (a + 1) % 8) for a in range(8)] + [(a, (a + 2) % 8) for a in range(6)], 3)

    def test_16_points(self):
        self.assert_counts(16, [(a, a + 1) for a in range(0, 14, 2)] + [(a, a + 2) for a in range(7)], 2)

    def test_an_edge_several_times_is_like_once(self):
        once = ask_graph(3, [(0, 1), (1, 2)], [colourings(7)])
        self.assertEqual(ask_graph(3, [(0, 1), (1, 0), (0, 1), (1, 2), (2, 1)], [colourings(7)]), once)


class FewColours(unittest.TestCase):
    def test_no_colours(self):
        for n, edges in ((1, []), (16, []), (2, [(0, 1)]), (1, [(0, 0)]), (16, [(a, a + 1) for a in range(14)])):
            self.assertEqual(ask_graph(n, edges, [colourings(0)]), [[0] + [0] * 32], (n, edges))

    def test_one_colour(self):
        for n in (1, 2, 16):
            self.assertEqual(ask_graph(n, [], [colourings(1)]), [[0, 1] + [0] * 31])
        self.assertEqual(ask_graph(16, [(3, 9)], [colourings(1)]), [[0] + [0] * 32])

    def test_with_a_loop_there_are_none(self):
        for k in (0, 1, 2, 3, 65535, 65536):
            self.assertEqual(ask_graph(1, [(0, 0)], [colourings(k)]), [[0] + [0] * 32])
            self.assertEqual(ask_graph(16, [(0, 1), (1, 2), (15, 15)], [colourings(k)]), [[0] + [0] * 32])


class ManyColours(unittest.TestCase):
    def assert_large(self, n, edges, count):
        told = ask_graph(n, edges, [colourings(k) for k in LARGE])
        self.assertEqual(told, [[0] + thirty_two_bytes(count(k)) for k in LARGE], (n, edges))

    def test_no_edges(self):
        for n in range(1, 17):
            self.assert_large(n, [], lambda k: k ** n)

    def test_2_to_the_256_is_told_as_0(self):
        self.assertEqual(ask_graph(16, [], [colourings(65536)]), [[0] + [0] * 32])

    def test_2_to_the_240_is_the_highest_bytes_but_one(self):
        self.assertEqual(ask_graph(15, [], [colourings(65536)]), [[0] + [0] * 30 + [1, 0]])

    def test_trees(self):
        for n in range(2, 16):
            self.assert_large(n, [(a // 2, a) for a in range(1, n)], lambda k: k * (k - 1) ** (n - 1))

    def test_a_path_and_a_point_by_itself(self):
        self.assert_large(16, [(a, a + 1) for a in range(14)], lambda k: k * k * (k - 1) ** 14)

    def test_cycles(self):
        for n in range(2, 15):
            cycle = [(a, (a + 1) % n) for a in range(n)]
            self.assert_large(n, cycle, lambda k: (k - 1) ** n + (-1) ** n * (k - 1))

    def test_all_edges_between_five_points(self):
        edges = list(combinations(range(5), 2))
        self.assert_large(16, edges, lambda k: k ** 12 * (k - 1) * (k - 2) * (k - 3) * (k - 4))


class Refusals(unittest.TestCase):
    def test_k_outside_0_to_65536(self):
        for k in (-1, 65537, LOWEST, HIGHEST):
            self.assertEqual(ask_graph(2, [(0, 1)], [colourings(k)]), [[-1]], k)

    def test_the_ends_are_within(self):
        told = ask_graph(2, [(0, 1)], [colourings(0), colourings(65536)])
        self.assertEqual(told, [[0] + [0] * 32, [0] + thirty_two_bytes(65536 * 65535)])

    def test_a_refused_one_changes_nothing(self):
        built = building(2, [(0, 1)])
        told = ask(*built, colourings(65537), colourings(3), edge(1, 0), colourings(-1), colourings(3))
        self.assertEqual(told[3:], [[-1], [0] + thirty_two_bytes(6), [1], [-1], [0] + thirty_two_bytes(6)])


class AmongOtherCalls(unittest.TestCase):
    def test_after_every_edge_of_a_line(self):
        told = ask(begin(), points(3), colourings(4), edge(0, 1), colourings(4), edge(1, 2), colourings(4), edge(2, 0),
                   colourings(4), edge(1, 1), colourings(4), points(2), colourings(4))
        counts = [answer[1:] for answer in told if len(answer) > 1]
        self.assertEqual(counts, [thirty_two_bytes(count) for count in (64, 48, 36, 24, 0, 16)])


if __name__ == "__main__":
    unittest.main()
