"""Promises 1 to 3: begin, points and edge."""

import unittest

from tests.helper import HIGHEST, LOWEST, ask, begin, colourings, edge, flows, forests, holding, orders, parts, points
from tests.helper import thirty_two_bytes, tutte


class Begin(unittest.TestCase):
    def test_answers_0_also_when_it_comes_again(self):
        self.assertEqual(ask(begin()), [[0]])
        self.assertEqual(ask(begin(), begin(), points(3), begin()), [[0]] * 4)

    def test_there_is_no_graph_behind_it(self):
        self.assertEqual(ask(begin(), edge(0, 0), tutte(0, 0), colourings(1)), [[0], [-4], [-4], [-4]])

    def test_it_takes_the_graph_away(self):
        told = ask(begin(), points(2), edge(0, 1), begin(), edge(0, 1), tutte(1, 0), colourings(2))
        self.assertEqual(told, [[0], [0], [0], [0], [-4], [-4], [-4]])

    def test_edges_are_numbered_anew_behind_it(self):
        told = ask(begin(), points(2), edge(0, 1), edge(0, 1), begin(), points(2), edge(0, 1))
        self.assertEqual(told, [[0], [0], [0], [1], [0], [0], [0]])


class NoGraph(unittest.TestCase):
    def test_minus_4_comes_ahead_of_minus_1(self):
        wrong = [edge(-1, 0), edge(0, 16), edge(LOWEST, HIGHEST)]
        wrong += [tutte(-1, 0), tutte(17, 0), tutte(0, -1), tutte(0, 41), tutte(HIGHEST, LOWEST)]
        wrong += [colourings(-1), colourings(65537), colourings(LOWEST), colourings(HIGHEST)]
        self.assertEqual(ask(begin(), *wrong), [[0]] + [[-4]] * len(wrong))

    def test_minus_4_comes_ahead_of_minus_1_in_flows_holding_and_forests(self):
        wrong = [flows(k) for k in (0, 65, -1, LOWEST, HIGHEST)]
        wrong += [call(i) for call in (holding, forests) for i in (-1, 41, LOWEST, HIGHEST)]
        self.assertEqual(ask(begin(), *wrong), [[0]] + [[-4]] * len(wrong))
        self.assertEqual(ask(begin(), points(2), begin(), *wrong), [[0]] * 3 + [[-4]] * len(wrong))

    def test_flows_holding_forests_orders_and_parts_leave_no_graph(self):
        asked = [flows(1), holding(0), forests(0), orders(), parts()]
        for call in asked:
            told = ask(begin(), call, *asked, edge(0, 0), tutte(0, 0), colourings(1))
            self.assertEqual(told, [[0]] + [[-4]] * 9, call)
            told = ask(begin(), points(2), edge(0, 1), begin(), call, *asked, edge(0, 0))
            self.assertEqual(told, [[0]] * 4 + [[-4]] * 7, call)

    def test_a_refused_points_makes_no_graph(self):
        self.assertEqual(ask(begin(), points(0), edge(0, 0), points(17), tutte(0, 0)), [[0], [-1], [-4], [-1], [-4]])

    def test_a_call_refused_for_want_of_a_graph_changes_nothing(self):
        told = ask(begin(), edge(0, 1), points(2), edge(0, 1), tutte(1, 0), tutte(0, 0))
        self.assertEqual(told, [[0], [-4], [0], [0], [0, 1], [0, 0]])


class Points(unittest.TestCase):
    def test_answers_0_from_1_to_16(self):
        for n in range(1, 17):
            self.assertEqual(ask(begin(), points(n)), [[0], [0]], n)

    def test_refuses_what_is_outside(self):
        for n in (0, 17, -1, 18, -16, LOWEST, HIGHEST):
            self.assertEqual(ask(begin(), points(n)), [[0], [-1]], n)

    def test_makes_so_many_points(self):
        for n in range(1, 17):
            told = ask(begin(), points(n), edge(n - 1, 0), edge(n, 0), edge(0, n))
            self.assertEqual(told, [[0], [0], [0], [-1], [-1]], n)

    def test_the_new_graph_has_no_edges(self):
        told = ask(begin(), points(3), tutte(0, 0), tutte(1, 0), tutte(0, 1), colourings(5))
        self.assertEqual(told, [[0], [0], [0, 1], [0, 0], [0, 0], [0] + thirty_two_bytes(125)])

    def test_a_new_graph_takes_the_old_ones_place(self):
        told = ask(begin(), points(2), edge(0, 1), tutte(1, 0), points(3), tutte(0, 0), tutte(1, 0), edge(2, 2))
        self.assertEqual(told, [[0], [0], [0], [0, 1], [0], [0, 1], [0, 0], [0]])

    def test_the_same_number_of_points_again_also_takes_the_edges_away(self):
        told = ask(begin(), points(2), edge(0, 1), points(2), colourings(3), edge(1, 0))
        self.assertEqual(told, [[0], [0], [0], [0], [0] + thirty_two_bytes(9), [0]])

    def test_a_refused_one_changes_nothing(self):
        for n in (0, 17, -1, LOWEST, HIGHEST):
            told = ask(begin(), points(2), edge(0, 1), points(n), colourings(3), edge(1, 1), edge(2, 0), tutte(1, 1))
            self.assertEqual(told, [[0], [0], [0], [-1], [0] + thirty_two_bytes(6), [1], [-1], [0, 1]], n)


class Edge(unittest.TestCase):
    def test_numbers_go_up_from_0(self):
        told = ask(begin(), points(16), *[edge(a, a + 1) for a in range(14)])
        self.assertEqual(told[2:], [[number] for number in range(14)])

    def test_from_a_point_to_itself_and_several_between_two(self):
        told = ask(begin(), points(2), edge(0, 0), edge(0, 0), edge(0, 1), edge(1, 0), edge(0, 1), edge(1, 1))
        self.assertEqual(told[2:], [[0], [1], [2], [3], [4], [5]])

    def test_refuses_points_that_there_are_not(self):
        for n in (1, 2, 5, 16):
            for wrong in (-1, n, n + 1, LOWEST, HIGHEST):
                told = ask(begin(), points(n), edge(wrong, 0), edge(0, wrong), edge(wrong, wrong), edge(n - 1, n - 1))
                self.assertEqual(told[2:], [[-1], [-1], [-1], [0]], (n, wrong))

    def test_a_refused_one_changes_nothing_and_takes_no_number(self):
        told = ask(begin(), points(3), edge(0, 1), edge(0, 3), edge(1, 2), edge(-1, 2), tutte(2, 0), edge(2, 0))
        self.assertEqual(told[2:], [[0], [-1], [1], [-1], [0, 1], [2]])

    def test_an_edge_counts_also_when_the_polynomial_was_asked_before(self):
        told = ask(begin(), points(2), tutte(0, 0), edge(0, 1), tutte(0, 0), tutte(1, 0), edge(0, 1), tutte(0, 1))
        self.assertEqual(told[2:], [[0, 1], [0], [0, 0], [0, 1], [1], [0, 1]])


class FortyEdges(unittest.TestCase):
    """No line within its limits gets there; the promise names it all the same."""

    def test_minus_2_where_there_are_40(self):
        told = ask(begin(), points(2), *[edge(0, 1)] * 40, edge(0, 1), edge(1, 1), tutte(0, 39), tutte(0, 40))
        self.assertEqual(told[2:], [[number] for number in range(40)] + [[-2], [-2], [0, 1], [0, 0]])

    def test_minus_1_comes_ahead_of_minus_2(self):
        told = ask(begin(), points(2), *[edge(0, 1)] * 40, edge(0, 2), edge(-1, 0), edge(0, 0))
        self.assertEqual(told[42:], [[-1], [-1], [-2]])

    def test_the_edges_of_a_new_graph_are_counted_anew(self):
        told = ask(begin(), points(1), *[edge(0, 0)] * 40, tutte(0, 40), points(1), edge(0, 0))
        self.assertEqual(told[42:], [[0, 1], [0], [0]])


if __name__ == "__main__":
    unittest.main()
