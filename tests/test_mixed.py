"""Promises 1 to 10 together: lines with calls of all ten kinds, against a line answered the slow way."""

import unittest
from random import Random

from tests.helper import HIGHEST, LOWEST, QUERIES_IN_A_LINE, ask, begin, colourings, edge, flows, flows_edge_by_edge
from tests.helper import forests, forests_one_by_one, holding, holding_one_by_one, orders, orders_one_by_one
from tests.helper import part_count, parts, points, thirty_two_bytes, tutte, tutte_by_sets

CALLS_IN_A_LINE = 60
EDGES_IN_A_LINE = 14
QUERY_KINDS = (3, 4, 5, 6, 7, 8)


def colourings_edge_by_edge(n, edges, k):
    """By leaving out an edge and by drawing it together."""
    if not edges:
        return k ** n
    (a, b), others = edges[0], edges[1:]
    if a == b:
        return 0
    drawn = [(a if c == b else c, a if d == b else d) for c, d in others]
    return colourings_edge_by_edge(n, others, k) - colourings_edge_by_edge(n - 1, drawn, k)


class SlowLine:
    """A line's calls answered one by one by the words of the document."""

    def __init__(self):
        self.n = None
        self.edges = []

    def answer(self, call):
        kind, numbers = call[0], call[1:]
        if kind == 0:
            self.n = None
            return [0]
        if kind == 1:
            return self.points(*numbers)
        if self.n is None:
            return [-4]
        by_kind = (self.edge, self.tutte, self.colourings, self.flows, self.holding, self.forests, self.orders,
                   self.parts)
        return by_kind[kind - 2](*numbers)

    def points(self, n):
        if not 1 <= n <= 16:
            return [-1]
        self.n, self.edges = n, []
        return [0]

    def edge(self, a, b):
        if not (0 <= a < self.n and 0 <= b < self.n):
            return [-1]
        self.edges = self.edges + [(a, b)]
        return [len(self.edges) - 1]

    def tutte(self, i, j):
        if not (0 <= i <= 16 and 0 <= j <= 40):
            return [-1]
        return [0, tutte_by_sets(self.n, self.edges).get((i, j), 0)]

    def colourings(self, k):
        if not 0 <= k <= 65536:
            return [-1]
        return [0] + thirty_two_bytes(colourings_edge_by_edge(self.n, self.edges, k))

    def flows(self, k):
        if not 1 <= k <= 64:
            return [-1]
        return [0] + thirty_two_bytes(flows_edge_by_edge(self.edges, k))

    def holding(self, i):
        if not 0 <= i <= 40:
            return [-1]
        return [0, holding_one_by_one(self.n, self.edges)[i]]

    def forests(self, i):
        if not 0 <= i <= 40:
            return [-1]
        return [0, forests_one_by_one(self.n, self.edges)[i]]

    def orders(self):
        return [0, orders_one_by_one(self.n, self.edges)]

    def parts(self):
        return [part_count(self.n, self.edges)]


def drawn_call(random, kind, n):
    """A call of a kind on a graph of n points; now and then one that is to be refused."""
    wrong = random.random() < 0.1
    if kind == 1:
        return points(random.choice((0, 17, -1, LOWEST, HIGHEST)) if wrong else random.randint(1, 7))
    if kind == 2:
        last = n if wrong else n - 1
        return edge(random.randint(-1 if wrong else 0, last), random.randint(0, last))
    if kind == 3:
        return tutte(*random.choice(((-1, 0), (17, 0), (0, -1), (0, 41))) if wrong
                     else (random.randint(0, 4), random.randint(0, 4)))
    if kind == 4:
        return colourings(random.choice((-1, 65537)) if wrong else random.choice((0, 1, 2, 3, 4, 5, 300, 65536)))
    if kind == 5:
        return flows(random.choice((0, 65, -1)) if wrong else random.choice((1, 2, 3, 4, 5, 6, 63, 64)))
    if kind in (6, 7):
        return [kind, random.choice((-1, 41)) if wrong else random.choice((0, 1, 2, 3, 4, 5, 6, 40))]
    return [kind]


def drawn_line(random):
    """A line within its limits, drawn by a random source with a written seed."""
    calls = [begin()]
    n = 3
    kinds = [1] + [random.choices(range(10), (1, 2, 18, 4, 4, 4, 4, 4, 4, 6))[0] for place in range(58)]
    for kind in kinds:
        made = [call[0] for call in calls]
        queries = sum(each in QUERY_KINDS for each in made)
        if (kind == 2 and made.count(2) == EDGES_IN_A_LINE) or (kind in QUERY_KINDS and queries == QUERIES_IN_A_LINE):
            kind = 9
        calls.append(drawn_call(random, kind, n))
        if kind == 1 and 1 <= calls[-1][1] <= 16:
            n = calls[-1][1]
    return calls


class DrawnLines(unittest.TestCase):
    def test_each_answer_speaks_of_the_graph_as_it_is_then(self):
        random = Random(12)
        kinds = set()
        refusals = set()
        for turn in range(120):
            calls = drawn_line(random)
            self.assertEqual(len(calls), CALLS_IN_A_LINE)
            slow = SlowLine()
            expected = [slow.answer(call) for call in calls]
            self.assertEqual(ask(*calls), expected, calls)
            kinds |= {call[0] for call, answer in zip(calls, expected) if answer[0] >= 0}
            refusals |= {(call[0], answer[0]) for call, answer in zip(calls, expected) if answer[0] < 0}
        self.assertEqual(kinds, set(range(10)))
        self.assertEqual(refusals, {(kind, -4) for kind in range(2, 10)} | {(kind, -1) for kind in range(1, 8)})


class WrittenLine(unittest.TestCase):
    def test_all_ten_kinds(self):
        table = (
            (begin(), [0]),
            (parts(), [-4]),
            (points(3), [0]),
            (parts(), [3]),
            (orders(), [0, 1]),
            (flows(3), [0] + thirty_two_bytes(1)),
            (edge(0, 1), [0]),
            (edge(1, 2), [1]),
            (forests(2), [0, 1]),
            (holding(2), [0, 1]),
            (flows(3), [0] + thirty_two_bytes(0)),
            (orders(), [0, 4]),
            (edge(2, 0), [2]),
            (tutte(1, 0), [0, 1]),
            (colourings(3), [0] + thirty_two_bytes(6)),
            (flows(3), [0] + thirty_two_bytes(2)),
            (holding(2), [0, 3]),
            (forests(2), [0, 3]),
            (orders(), [0, 6]),
            (parts(), [1]),
            (points(2), [0]),
            (parts(), [2]),
            (holding(0), [0, 1]),
            (edge(1, 1), [0]),
            (orders(), [0, 0]),
            (flows(64), [0] + thirty_two_bytes(63)),
            (forests(1), [0, 0]),
            (begin(), [0]),
            (orders(), [-4]),
            (flows(64), [-4]),
            (holding(0), [-4]),
            (forests(0), [-4]),
            (parts(), [-4]),
        )
        self.assertEqual(ask(*[call for call, answer in table]), [answer for call, answer in table])


class RefusedCalls(unittest.TestCase):
    def test_they_change_nothing(self):
        asked = [tutte(1, 1), colourings(5), flows(5), holding(3), forests(2), orders(), parts()]
        wrong = [points(0), points(17), edge(4, 0), edge(0, -1), tutte(17, 0), tutte(0, 41), colourings(-1),
                 colourings(65537), flows(0), flows(65), holding(-1), holding(41), forests(-1), forests(41)]
        built = [begin(), points(4), edge(0, 1), edge(1, 2), edge(2, 0), edge(0, 1)]
        plain = ask(*built, *asked, edge(3, 3))[len(built):]
        for call in wrong:
            told = ask(*built, call, *asked, edge(3, 3))[len(built):]
            self.assertEqual(told, [[-1]] + plain, call)


if __name__ == "__main__":
    unittest.main()
