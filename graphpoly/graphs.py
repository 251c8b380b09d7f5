"""The calls on a graph, handed over and answered as lists of whole numbers."""

from graphpoly.polynomials import colouring_count
from graphpoly.polynomials import flow_count
from graphpoly.polynomials import forest_count
from graphpoly.polynomials import holding_count
from graphpoly.polynomials import order_count
from graphpoly.polynomials import tutte_coefficient
from graphpoly.ranks import part_count
from graphpoly.ranks import rank_table

BEGIN = 0
POINTS = 1
EDGE = 2
TUTTE = 3
COLOURINGS = 4
FLOWS = 5
HOLDING = 6
FORESTS = 7
ORDERS = 8
PARTS = 9

# By a call's number: how many whole numbers stand behind it.
NUMBER_COUNTS = (0, 1, 2, 2, 1, 1, 1, 1, 0, 0)

OUT_OF_RANGE = -1
FULL = -2
NO_GRAPH = -4

MOST_POINTS = 16
MOST_EDGES = 40
MOST_COLOURS = 65536
HIGHEST_FLOW_MODULUS = 64
TOLD_BYTES = 32


class Graph:
    """Points numbered from 0 on, and the edges between them as they were told."""

    def __init__(self, point_count):
        self.point_count = point_count
        self.edges = []
        self.known_table = None

    def add_edge(self, a, b):
        self.edges.append((a, b))
        self.known_table = None

    def table(self):
        # Kept until the next edge, because working it out takes by far the longest.
        if self.known_table is None:
            self.known_table = rank_table(self.point_count, self.edges)
        return self.known_table


class Line:
    """What the calls of one list have made so far."""

    def __init__(self):
        self.graph = None


def outside(number, low, high):
    return number < low or number > high


def low_bytes(number):
    """The number modulo 2^256 by its bytes, the lowest first."""
    told = []
    rest = number
    for place in range(TOLD_BYTES):
        told.append(rest % 256)
        rest = rest // 256
    return told


def begin(line):
    line.graph = None
    return [0]


def points(line, n):
    if outside(n, 1, MOST_POINTS):
        return [OUT_OF_RANGE]
    line.graph = Graph(n)
    return [0]


def edge(graph, a, b):
    last = graph.point_count - 1
    if outside(a, 0, last) or outside(b, 0, last):
        return [OUT_OF_RANGE]
    number = len(graph.edges)
    if number >= MOST_EDGES:
        return [FULL]
    graph.add_edge(a, b)
    return [number]


def tutte(graph, i, j):
    if outside(i, 0, MOST_POINTS) or outside(j, 0, MOST_EDGES):
        return [OUT_OF_RANGE]
    return [0, tutte_coefficient(graph.table(), i, j)]


def colourings(graph, k):
    if outside(k, 0, MOST_COLOURS):
        return [OUT_OF_RANGE]
    return [0] + low_bytes(colouring_count(graph.table(), graph.point_count, k))


def flows(graph, k):
    if outside(k, 1, HIGHEST_FLOW_MODULUS):
        return [OUT_OF_RANGE]
    return [0] + low_bytes(flow_count(graph.table(), len(graph.edges), k))


def holding(graph, i):
    if outside(i, 0, MOST_EDGES):
        return [OUT_OF_RANGE]
    return [0, holding_count(graph.table(), i)]


def forests(graph, i):
    if outside(i, 0, MOST_EDGES):
        return [OUT_OF_RANGE]
    return [0, forest_count(graph.table(), i)]


def orders(graph):
    return [0, order_count(graph.table())]


def parts(graph):
    return [part_count(graph.point_count, graph.edges)]


def graph_answer(graph, call, numbers):
    """The answer to a call that needs a graph."""
    if call == EDGE:
        return edge(graph, numbers[0], numbers[1])
    if call == TUTTE:
        return tutte(graph, numbers[0], numbers[1])
    if call == COLOURINGS:
        return colourings(graph, numbers[0])
    if call == FLOWS:
        return flows(graph, numbers[0])
    if call == HOLDING:
        return holding(graph, numbers[0])
    if call == FORESTS:
        return forests(graph, numbers[0])
    if call == ORDERS:
        return orders(graph)
    return parts(graph)


def line_answer(line, call, numbers):
    if call == BEGIN:
        return begin(line)
    if call == POINTS:
        return points(line, numbers[0])
    if line.graph is None:
        return [NO_GRAPH]
    return graph_answer(line.graph, call, numbers)


def answers(calls):
    """The answers to a list of calls: for each, how many numbers are answered, then these."""
    line = Line()
    told = []
    place = 0
    while place < len(calls):
        call = calls[place]
        behind = place + 1 + NUMBER_COUNTS[call]
        answer = line_answer(line, call, calls[place + 1:behind])
        told.append(len(answer))
        told.extend(answer)
        place = behind
    return told
