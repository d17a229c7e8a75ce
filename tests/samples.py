"""Graphs for the tests, and slow readings of the document to hold the program against."""
from itertools import combinations, permutations


def graph(n, ways):
    g = [0] * n
    for u, v in ways:
        g[u] |= 1 << v
        g[v] |= 1 << u
    return g


def ring(points):
    return [(u, points[k - 1]) for k, u in enumerate(points)]


def full(n):
    return graph(n, combinations(range(n), 2))


def graphs_of(n):
    """Every graph of n points."""
    pairs = list(combinations(range(n), 2))
    for chosen in range(1 << len(pairs)):
        yield graph(n, [pair for k, pair in enumerate(pairs) if chosen >> k & 1])


def numbers(seed):
    """Numbers that look thrown, the same ones each time."""
    state = seed
    while True:
        state = (state * 6364136223846793005 + 1442695040888963407) % 2 ** 64
        yield state >> 33


def thrown_graph(n, percent, seed):
    thrown = numbers(seed)
    return graph(n, [pair for pair in combinations(range(n), 2) if next(thrown) % 100 < percent])


def grown_graph(n, width, seed):
    """A graph of which all points go: each new point is joined to some of a clique. Its points are shuffled."""
    thrown = numbers(seed)
    names = sorted(range(n), key=lambda u: next(thrown))
    cliques = [[names[0]]]
    ways = []
    for u in names[1:]:
        chosen = [v for v in cliques[next(thrown) % len(cliques)] if next(thrown) % 4][:width]
        ways.extend((u, v) for v in chosen)
        cliques.append(chosen + [u])
    return graph(n, ways)


def neighbours(g):
    return [{v for v in range(len(g)) if g[u] >> v & 1} for u in range(len(g))]


def mask_of(points):
    return sum(1 << u for u in points)


def slow_is_graph(g):
    n = len(g)
    if not 1 <= n <= 32:
        return False
    joined = [(u, v) for u in range(n) for v in range(32) if g[u] >> v & 1]
    return all(v < n and u != v and (v, u) in joined for u, v in joined)


def slow_order(g):
    near = neighbours(g)
    left = set(range(len(g)))
    order = []
    while True:
        for u in sorted(left):
            if all(w in near[v] for v, w in combinations(near[u] & left, 2)):
                break
        else:
            return order
        order.append(u)
        left.remove(u)


def is_circle(near, row):
    inside = set(row)
    return all(near[u] & inside == {row[k - 1], row[(k + 1) % len(row)]} for k, u in enumerate(row))


def slow_circle(g):
    """The first of the shortest circles, out of all rows that may be one; None if there is none."""
    near = neighbours(g)
    for length in range(4, len(g) + 1):
        for row in permutations(range(len(g)), length):
            if row[0] == min(row) and row[1] < row[-1] and is_circle(near, row):
                return list(row)
    return None


def searched_circle(g):
    """As slow_circle, but only along rows that may still become a circle: for greater graphs."""
    near = neighbours(g)

    def lengthened(row, length):
        if len(row) == length:
            return row if row[1] < row[-1] and is_circle(near, row) else None
        for v in sorted(near[row[-1]]):
            if v > row[0] and v not in row and not near[v] & set(row[1:-1]):
                found = lengthened(row + [v], length)
                if found:
                    return found
        return None

    for length in range(4, len(g) + 1):
        for u in range(len(g)):
            found = lengthened([u], length)
            if found:
                return found
    return None


def slow_cliques(g):
    """The masks of the greatest cliques, out of all sets of points."""
    near = neighbours(g)
    cliques = []
    for size in range(1, len(g) + 1):
        for points in combinations(range(len(g)), size):
            if all(v in near[u] for u, v in combinations(points, 2)):
                if not set.intersection(*[near[u] for u in points]):
                    cliques.append(mask_of(points))
    return sorted(cliques)


def searched_cliques(g):
    """As slow_cliques, by growing cliques point by point: for greater graphs."""
    near = neighbours(g)
    found = []

    def grow(clique, may, done):
        if not may and not done:
            found.append(mask_of(clique))
        for u in sorted(may):
            grow(clique | {u}, may & near[u], done & near[u])
            may = may - {u}
            done = done | {u}

    grow(set(), set(range(len(g))), set())
    return sorted(found)


def slow_ways(cliques):
    """The tree's ways, each pair asked whether the ways so far lead from one to the other."""
    pairs = list(combinations(range(len(cliques)), 2))
    pairs.sort(key=lambda pair: -bin(cliques[pair[0]] & cliques[pair[1]]).count("1"))
    ways = []
    for i, j in pairs:
        reached = {i}
        for _ in ways:
            for way in ways:
                if reached & set(way):
                    reached |= set(way)
        if j not in reached:
            ways.append((i, j))
    return [place for way in ways for place in way]


def told(number, row, second_row):
    return [number, len(row), *row, len(second_row), *second_row]


def slow_pf_order(g, circle=slow_circle):
    if not slow_is_graph(g):
        return [-2, 0, 0]
    order = slow_order(g)
    if len(order) == len(g):
        return told(0, order, [])
    row = circle(g)
    return told(len(row), row, [])


def slow_pf_cliques(g, greatest=slow_cliques):
    if not slow_is_graph(g):
        return [-2, 0, 0]
    if len(slow_order(g)) < len(g):
        return [-3, 0, 0]
    cliques = greatest(g)
    return told(len(cliques), cliques, slow_ways(cliques))
