"""How many sets of a graph's edges have which rank and which size."""


def joined(labels, a, b):
    """The labels when the parts of a and b are one; a part's label is its lowest point."""
    low = min(labels[a], labels[b])
    high = max(labels[a], labels[b])
    return tuple([low if label == high else label for label in labels])


def part_count(point_count, edges):
    """How many parts all edges make; worked out without the table, which takes far longer."""
    labels = tuple(range(point_count))
    for a, b in edges:
        labels = joined(labels, a, b)
    return len(set(labels))


def add_sizes(found, labels, sizes):
    known = found.get(labels)
    if known is None:
        found[labels] = sizes
    else:
        found[labels] = [old + more for old, more in zip(known, sizes)]


def with_edge(found, a, b):
    """What is found when each set may also have the edge from a to b."""
    grown = {}
    for labels, sizes in found.items():
        add_sizes(grown, labels, sizes + [0])
        add_sizes(grown, joined(labels, a, b), [0] + sizes)
    return grown


def sizes_by_labels(point_count, edges):
    """For each way in which sets of edges part the points: how many such sets have 0, 1, 2, .. edges.

    Sets that part the points alike are alike for every edge to come, so they are counted together.
    """
    found = {tuple(range(point_count)): [1]}
    for a, b in edges:
        found = with_edge(found, a, b)
    return found


def rank_table(point_count, edges):
    """A dict from (rank, size) to how many sets of edges have both, for those that occur."""
    table = {}
    for labels, sizes in sizes_by_labels(point_count, edges).items():
        rank = point_count - len(set(labels))
        for size, how_many in enumerate(sizes):
            if how_many > 0:
                table[(rank, size)] = table.get((rank, size), 0) + how_many
    return table
