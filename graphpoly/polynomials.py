"""What comes of a graph's rank table: coefficients and values of its polynomials, and counts of sets."""


def binomial(n, k):
    """In how many ways k things are chosen of n; 0 where k is above n."""
    ways = 1
    for taken in range(k):
        ways = ways * (n - taken) // (taken + 1)
    return ways


def signed(number, power):
    """The number times (-1) to the power."""
    return number if power % 2 == 0 else -number


def shifted_coefficient(power, i):
    """The coefficient of x^i in (x - 1)^power."""
    return signed(binomial(power, i), power - i)


def raised(base, power):
    value = 1
    for done in range(power):
        value = value * base
    return value


def full_rank(table):
    """The rank of all edges: no set of edges has a higher one."""
    return max([rank for rank, size in table])


def tutte_coefficient(table, i, j):
    """The coefficient of x^i y^j in Tutte's polynomial."""
    highest = full_rank(table)
    total = 0
    for rank, size in table:
        x_part = shifted_coefficient(highest - rank, i)
        y_part = shifted_coefficient(size - rank, j)
        total += table[(rank, size)] * x_part * y_part
    return total


def colouring_count(table, point_count, k):
    """How many colourings there are with k colours.

    The points of one part of a set of edges have one colour in k to the power of its parts ways;
    by inclusion and exclusion over the sets, those with no such edge at all are left.
    """
    total = 0
    for rank, size in table:
        ways = raised(k, point_count - rank)
        total += signed(table[(rank, size)] * ways, size)
    return total


def flow_count(table, edge_count, k):
    """How many flows there are by k.

    If only the edges of a set may have a number other than 0, but needn't, the numbers that leave no
    rest at any point come in k to the power of the set's edges less its rank ways; by inclusion and
    exclusion over the sets, those with a 0 nowhere are left.
    """
    total = 0
    for rank, size in table:
        ways = raised(k, size - rank)
        total += signed(table[(rank, size)] * ways, edge_count - size)
    return total


def holding_count(table, i):
    """How many sets of i edges have as many parts as all edges, which is: the same rank."""
    return table.get((full_rank(table), i), 0)


def forest_count(table, i):
    """How many sets of i edges have the rank i."""
    return table.get((i, i), 0)


def order_count(table):
    """How many orders there are: the value of Tutte's polynomial at x = 2, y = 0 (Stanley)."""
    total = 0
    for rank, size in table:
        total += signed(table[(rank, size)], size - rank)
    return total
