"""Calls written as lists, their answers taken apart, and the words of the document worked out the slow way."""

from itertools import product

from graphpoly.graphs import answers

LOWEST = -2147483648
HIGHEST = 2147483647
QUERIES_IN_A_LINE = 20


def begin():
    return [0]


def points(n):
    return [1, n]


def edge(a, b):
    return [2, a, b]


def tutte(i, j):
    return [3, i, j]


def colourings(k):
    return [4, k]


def flows(k):
    return [5, k]


def holding(i):
    return [6, i]


def forests(i):
    return [7, i]


def orders():
    return [8]


def parts():
    return [9]


def flat(calls):
    return [number for call in calls for number in call]


def split_answers(told):
    """The answers one by one, out of the list that holds how many numbers each has."""
    split = []
    place = 0
    while place < len(told):
        behind = place + 1 + told[place]
        if told[place] < 1 or behind > len(told):
            raise AssertionError(f"no answer of {told[place]} numbers at {place} of {told}")
        split.append(told[place + 1:behind])
        place = behind
    return split


def ask(*calls):
    """The answers to these calls, a list each."""
    split = split_answers(answers(flat(calls)))
    if len(split) != len(calls):
        raise AssertionError(f"{len(calls)} calls, {len(split)} answers")
    return split


def building(n, edges):
    """The calls that build a graph."""
    return [begin(), points(n)] + [edge(a, b) for a, b in edges]


def ask_graph(n, edges, queries):
    """The answers to queries on one graph, in as many lines as they need."""
    told = []
    built = building(n, edges)
    for first in range(0, len(queries), QUERIES_IN_A_LINE):
        told += ask(*built, *queries[first:first + QUERIES_IN_A_LINE])[len(built):]
    return told


def part_count(n, edges):
    neighbours = [[] for point in range(n)]
    for a, b in edges:
        neighbours[a].append(b)
        neighbours[b].append(a)
    seen = [False] * n
    parts = 0
    for start in range(n):
        if not seen[start]:
            parts += 1
            seen[start] = True
            waiting = [start]
            while waiting:
                for other in neighbours[waiting.pop()]:
                    if not seen[other]:
                        seen[other] = True
                        waiting.append(other)
    return parts


def power_of_one_less(power):
    """The coefficients of (x - 1)^power, the lowest first, by multiplying it out."""
    row = [1]
    for factor in range(power):
        row = [up - same for up, same in zip([0] + row, row + [0])]
    return row


def tutte_by_sets(n, edges):
    """Tutte's polynomial as {(i, j): coefficient}, by the sum over all sets of edges."""
    all_rank = n - part_count(n, edges)
    exponents = {}
    for taken in product((False, True), repeat=len(edges)):
        chosen = [ends for ends, is_in in zip(edges, taken) if is_in]
        rank = n - part_count(n, chosen)
        pair = (all_rank - rank, len(chosen) - rank)
        exponents[pair] = exponents.get(pair, 0) + 1
    polynomial = {}
    for (x_power, y_power), sets in exponents.items():
        for i, x_part in enumerate(power_of_one_less(x_power)):
            for j, y_part in enumerate(power_of_one_less(y_power)):
                polynomial[i, j] = polynomial.get((i, j), 0) + sets * x_part * y_part
    return polynomial


def colourings_one_by_one(n, edges, k):
    return sum(all(colours[a] != colours[b] for a, b in edges) for colours in product(range(k), repeat=n))


def flows_one_by_one(n, edges, k):
    """How many ways there are to give each edge 1 to k - 1 so that each point's rest by k is 0."""
    count = 0
    for numbers in product(range(1, k), repeat=len(edges)):
        rests = [0] * n
        for (a, b), number in zip(edges, numbers):
            rests[a] -= number
            rests[b] += number
        count += all(rest % k == 0 for rest in rests)
    return count


def flows_edge_by_edge(edges, k):
    """The same for many edges and large k, by leaving out an edge and by drawing it together."""
    if not edges:
        return 1
    (a, b), others = edges[0], edges[1:]
    if a == b:
        return (k - 1) * flows_edge_by_edge(others, k)
    drawn = [(a if c == b else c, a if d == b else d) for c, d in others]
    return flows_edge_by_edge(drawn, k) - flows_edge_by_edge(others, k)


def sets_one_by_one(n, edges, wanted):
    """By size from 0 to 40: how many sets of edges there are of which wanted(set's size, set's parts) holds."""
    counts = [0] * 41
    for taken in product((False, True), repeat=len(edges)):
        chosen = [ends for ends, is_in in zip(edges, taken) if is_in]
        counts[len(chosen)] += wanted(len(chosen), part_count(n, chosen))
    return counts


def holding_one_by_one(n, edges):
    all_parts = part_count(n, edges)
    return sets_one_by_one(n, edges, lambda size, parts_of_set: parts_of_set == all_parts)


def forests_one_by_one(n, edges):
    return sets_one_by_one(n, edges, lambda size, parts_of_set: n - parts_of_set == size)


def goes_round(n, arrows):
    """Whether one can go round: points that no arrow leads to are taken away until there are none such."""
    left = set(range(n))
    while True:
        led_to = {b for a, b in arrows if a in left}
        free = left - led_to
        if not free:
            return bool(left)
        left -= free


def orders_one_by_one(n, edges):
    count = 0
    for turned in product((False, True), repeat=len(edges)):
        arrows = [(b, a) if back else (a, b) for (a, b), back in zip(edges, turned)]
        count += not goes_round(n, arrows)
    return count


def thirty_two_bytes(number):
    return list((number % 2 ** 256).to_bytes(32, "little"))


def some_graphs(random, how_many, most_points, most_edges):
    """Graphs drawn by a random source with a written seed, so that every run has the same."""
    drawn = []
    for turn in range(how_many):
        n = random.randint(1, most_points)
        m = random.randint(0, most_edges)
        drawn.append((n, [(random.randrange(n), random.randrange(n)) for place in range(m)]))
    return drawn
