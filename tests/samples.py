"""Graphs for the tests, and slow readings of the document to hold the program against."""
from itertools import combinations, permutations


def graph(n, ways):
    g = [0] * n
    for u, v in ways:
        g[u] |= 1 << v
        g[v] |= 1 << u
    return g


def ring(points):
    return [(u, points[k - 1]) for k, u in enumerate(points)]


def full(n):
    return graph(n, combinations(range(n), 2))


def graphs_of(n):
    """Every graph of n points."""
    pairs = list(combinations(range(n), 2))
    for chosen in range(1 << len(pairs)):
        yield graph(n, [pair for k, pair in enumerate(pairs) if chosen >> k & 1])


def numbers(seed):
    """Numbers that look thrown, the same ones each time."""
    state = seed
    while True:
        state = (state * 6364136223846793005 + 1442695040888963407) % 2 ** 64
        yield state >> 33


def thrown_graph(n, percent, seed):
    thrown = numbers(seed)
    return graph(n, [pair for pair in combinations(range(n), 2) if next(thrown) % 100 < percent])


def grown_graph(n, width, seed):
    """A graph of which all points go: each new point is joined to some of a clique. Its points are shuffled."""
    thrown = numbers(seed)
    names = sorted(range(n), key=lambda u: next(thrown))
    cliques = [[names[0]]]
    ways = []
    for u in names[1:]:
        chosen = [v for v in cliques[next(thrown) % len(cliques)] if next(thrown) % 4][:width]
        ways.extend((u, v) for v in chosen)
        cliques.append(chosen + [u])
    return graph(n, ways)


def spans_graph(spans, seed):
    """The graph of which those are joined whose spans have a common place. Its points are shuffled."""
    return shuffled(graph(len(spans), [(u, v) for u, v in combinations(range(len(spans)), 2)
                                       if spans[u][0] <= spans[v][1] and spans[v][0] <= spans[u][1]]), seed)


def thrown_spans(n, places, longest, seed):
    thrown = numbers(seed)
    starts = [next(thrown) % places for _ in range(n)]
    return [(start, start + next(thrown) % longest) for start in starts]


def shuffled(g, seed):
    thrown = numbers(seed)
    names = sorted(range(len(g)), key=lambda u: next(thrown))
    return graph(len(g), [(names[u], names[v]) for u, v in combinations(range(len(g)), 2) if g[u] >> v & 1])


def thrown_row(n, seed):
    thrown = numbers(seed)
    return sorted(range(n), key=lambda u: next(thrown))


def graph_of_rows(rows):
    """The graph in which two points are joined if the same one stands first in all the rows."""
    n = len(rows[0])
    return graph(n, [(u, v) for u, v in permutations(range(n), 2) if all(row.index(u) < row.index(v) for row in rows)])


def others_of(g):
    return graph(len(g), [(u, v) for u, v in combinations(range(len(g)), 2) if not g[u] >> v & 1])


def neighbours(g):
    return [{v for v in range(len(g)) if g[u] >> v & 1} for u in range(len(g))]


def mask_of(points):
    return sum(1 << u for u in points)


def slow_is_graph(g):
    n = len(g)
    if not 1 <= n <= 32:
        return False
    joined = [(u, v) for u in range(n) for v in range(32) if g[u] >> v & 1]
    return all(v < n and u != v and (v, u) in joined for u, v in joined)


def slow_order(g):
    near = neighbours(g)
    left = set(range(len(g)))
    order = []
    while True:
        for u in sorted(left):
            if all(w in near[v] for v, w in combinations(near[u] & left, 2)):
                break
        else:
            return order
        order.append(u)
        left.remove(u)


def is_circle(near, row):
    inside = set(row)
    return all(near[u] & inside == {row[k - 1], row[(k + 1) % len(row)]} for k, u in enumerate(row))


def slow_circle(g):
    """The first of the shortest circles, out of all rows that may be one; None if there is none."""
    near = neighbours(g)
    for length in range(4, len(g) + 1):
        for row in permutations(range(len(g)), length):
            if row[0] == min(row) and row[1] < row[-1] and is_circle(near, row):
                return list(row)
    return None


def searched_circle(g):
    """As slow_circle, but only along rows that may still become a circle: for greater graphs."""
    near = neighbours(g)

    def lengthened(row, length):
        if len(row) == length:
            return row if row[1] < row[-1] and is_circle(near, row) else None
        for v in sorted(near[row[-1]]):
            if v > row[0] and v not in row and not near[v] & set(row[1:-1]):
                found = lengthened(row + [v], length)
                if found:
                    return found
        return None

    for length in range(4, len(g) + 1):
        for u in range(len(g)):
            found = lengthened([u], length)
            if found:
                return found
    return None


def slow_cliques(g):
    """The masks of the greatest cliques, out of all sets of points."""
    near = neighbours(g)
    cliques = []
    for size in range(1, len(g) + 1):
        for points in combinations(range(len(g)), size):
            if all(v in near[u] for u, v in combinations(points, 2)):
                if not set.intersection(*[near[u] for u in points]):
                    cliques.append(mask_of(points))
    return sorted(cliques)


def searched_cliques(g):
    """As slow_cliques, by growing cliques point by point: for greater graphs."""
    near = neighbours(g)
    found = []

    def grow(clique, may, done):
        if not may and not done:
            found.append(mask_of(clique))
            return
        # a greatest clique has a point that the pivot is not joined to, be it the pivot itself
        pivot = max(may | done, key=lambda u: len(near[u] & may))
        for u in sorted(may - near[pivot]):
            grow(clique | {u}, may & near[u], done & near[u])
            may = may - {u}
            done = done | {u}

    grow(set(), set(range(len(g))), set())
    return sorted(found)


def slow_ways(cliques):
    """The tree's ways, each pair asked whether the ways so far lead from one to the other."""
    pairs = list(combinations(range(len(cliques)), 2))
    pairs.sort(key=lambda pair: -bin(cliques[pair[0]] & cliques[pair[1]]).count("1"))
    ways = []
    for i, j in pairs:
        reached = {i}
        for _ in ways:
            for way in ways:
                if reached & set(way):
                    reached |= set(way)
        if j not in reached:
            ways.append((i, j))
    return [place for way in ways for place in way]


def told(number, row, second_row):
    return [number, len(row), *row, len(second_row), *second_row]


def slow_pf_order(g, circle=slow_circle):
    if not slow_is_graph(g):
        return [-2, 0, 0]
    order = slow_order(g)
    if len(order) == len(g):
        return told(0, order, [])
    row = circle(g)
    return told(len(row), row, [])


def slow_pf_cliques(g, greatest=slow_cliques):
    if not slow_is_graph(g):
        return [-2, 0, 0]
    if len(slow_order(g)) < len(g):
        return [-3, 0, 0]
    cliques = greatest(g)
    return told(len(cliques), cliques, slow_ways(cliques))


def slow_largest(cliques):
    size = max(bin(clique).count("1") for clique in cliques)
    return size, min(clique for clique in cliques if bin(clique).count("1") == size)


def slow_unjoined(g, order):
    near = neighbours(g)
    chosen = []
    for u in order:
        if not near[u] & set(chosen):
            chosen.append(u)
    return mask_of(chosen)


def slow_colours(g, order):
    near = neighbours(g)
    colours = {}
    for u in order[::-1]:
        taken = {colours[v] for v in near[u] if v in colours}
        colours[u] = min(set(range(len(g))) - taken)
    return [colours[u] for u in range(len(g))]


def stands_together(row, clique_sets, u):
    having = [k for k, place in enumerate(row) if u in clique_sets[place]]
    return having == list(range(having[0], having[0] + len(having)))


def slow_line(g, cliques):
    """The first order of the cliques' places in which each point's stand together, out of all; None if none does."""
    clique_sets = [{u for u in range(len(g)) if clique >> u & 1} for clique in cliques]
    for row in permutations(range(len(cliques))):
        if all(stands_together(row, clique_sets, u) for u in range(len(g))):
            return list(row)
    return None


def has_way_off(near, a, b, c):
    """Whether a way leads from a to b of which no point is c or joined to c."""
    off = near[c] | {c}
    reached = {a} - off
    while True:
        more = {v for u in reached for v in near[u]} - off - reached
        if not more:
            return b in reached - off
        reached |= more


def slow_three(near):
    """The first three points as in 4.; None if there are none."""
    for a, b, c in combinations(sorted(near), 3):
        if b not in near[a] and c not in near[a] and c not in near[b]:
            if has_way_off(near, a, b, c) and has_way_off(near, a, c, b) and has_way_off(near, b, c, a):
                return [a, b, c]
    return None


def near_by_point(g):
    return dict(enumerate(neighbours(g)))


def searched_line(g, cliques):
    """As slow_line, for greater graphs, place by place: a graph of which all points go, and that has no three as in 4.,
    has such an order. So a row of places can go on if there are no such three in the graph of what is to come, with a
    tail put to it that has to stand ahead of that."""
    clique_sets = [frozenset(u for u in range(len(g)) if clique >> u & 1) for clique in cliques]
    if slow_three(near_by_point(g)) is not None:
        return None
    row = []
    while len(row) < len(cliques):
        row.append(next(place for place in range(len(cliques)) if place not in row
                        and can_go_on(clique_sets, row + [place])))
    return row


def can_go_on(clique_sets, row):
    to_come = [clique for place, clique in enumerate(clique_sets) if place not in row]
    if not to_come:
        return True
    coming = frozenset().union(*to_come)
    going_on = frozenset().union(*[clique_sets[place] for place in row]) & coming
    if not going_on <= clique_sets[row[-1]] or not any(going_on <= clique for clique in to_come):
        return False
    # 97 is in all that is to come, and in the tail's last part; the tail's first part, 98 and 99, stands outside of it
    tail = [frozenset({98, 99}), going_on | {97, 98}]
    return slow_three(near_in([clique | {97} for clique in to_come] + tail)) is None


def near_in(clique_sets):
    near = {}
    for clique in clique_sets:
        for u in clique:
            near.setdefault(u, set()).update(clique - {u})
    return near


def slow_pf_greatest(g, greatest=slow_cliques):
    if not slow_is_graph(g):
        return [-2, 0, 0]
    order = slow_order(g)
    if len(order) < len(g):
        return [-3, 0, 0]
    size, mask = slow_largest(greatest(g))
    return told(size, [mask, slow_unjoined(g, order)], slow_colours(g, order))


def slow_pf_spans(g, greatest=slow_cliques, line=slow_line):
    if not slow_is_graph(g):
        return [-2, 0, 0]
    if len(slow_order(g)) < len(g):
        return [2, 0, 0]
    cliques = greatest(g)
    row = line(g, cliques)
    if row is None:
        return told(3, slow_three(near_by_point(g)), [])
    spans = []
    for u in range(len(g)):
        having = [k for k, place in enumerate(row) if cliques[place] >> u & 1]
        spans += [min(having), max(having)]
    return told(1, spans, [])


def slow_round(free, start):
    """All turns that the start brings with it, as pairs; free: the pairs, both ways, that weren't turned before."""
    points = sorted({u for pair in free for u in pair})
    turned = set()
    newest = {start}
    while newest:
        turned |= newest
        found = set()
        for a, b in newest:
            for c in points:
                if (a, c) in free and (b, c) not in free:
                    found.add((a, c))
                if (c, b) in free and (a, c) not in free:
                    found.add((c, b))
        newest = found - turned
    return turned


def slow_turns(g):
    """All turns as pairs, and None; or those up to there, and the two points with which a round began that fails."""
    free = {(u, v) for u, near in enumerate(neighbours(g)) for v in near}
    turns = set()
    while free:
        start = min(free)
        turned = slow_round(free, start)
        turned_back = {(v, u) for u, v in turned}
        if turned & turned_back:
            return turns, start
        turns |= turned
        free -= turned | turned_back
    return turns, None


def slow_heights(n, turns):
    """Heights are set anew until each is 1 more than the greatest of those to which its point is turned."""
    heights = [1] * n
    while True:
        again = [1 + max((heights[v] for w, v in turns if w == u), default=0) for u in range(n)]
        if again == heights:
            return heights
        heights = again


def slow_pf_turns(g):
    if not slow_is_graph(g):
        return [-2, 0, 0]
    turns, failed = slow_turns(g)
    if failed:
        return told(0, failed, [])
    masks = [mask_of(v for w, v in turns if w == u) for u in range(len(g))]
    return told(1, masks, slow_heights(len(g), turns))


def slow_row(n, before):
    """The points so that u stands before v for each pair of before: always the one that has to stand behind none."""
    row = []
    while len(row) < n:
        first = [v for v in range(n) if v not in row and not any((u, v) in before for u in range(n) if u not in row)]
        assert len(first) == 1, first
        row += first
    return row


def slow_pf_rows(g):
    if not slow_is_graph(g):
        return [-2, 0, 0]
    turns, failed = slow_turns(g)
    if failed:
        return [0, 0, 0]
    other_turns, failed = slow_turns(others_of(g))
    if failed:
        return [2, 0, 0]
    turned_back = {(v, u) for u, v in turns}
    return told(1, slow_row(len(g), turns | other_turns) + slow_row(len(g), turned_back | other_turns), [])


def parted_graph(n, size, percent, seed):
    """A graph of a clique and of points none of which are joined, but to those of the clique. Its points are
    shuffled."""
    thrown = numbers(seed)
    ways = list(combinations(range(size), 2))
    ways += [(u, v) for u in range(size) for v in range(size, n) if next(thrown) % 100 < percent]
    return shuffled(graph(n, ways), seed)


def stepped_graph(n, percent, seed):
    """A graph put together point by point, each joined to none or to all so far. Its points are shuffled."""
    thrown = numbers(seed)
    return shuffled(graph(n, [(u, v) for u in range(n) if next(thrown) % 100 < percent for v in range(u)]), seed)


def ways_among(g, points):
    return [set(pair) for pair in combinations(points, 2) if g[pair[0]] >> pair[1] & 1]


def is_ring(points, ways):
    """Whether the points can be put in a ring so that just those side by side are joined."""
    if any(sum(u in way for way in ways) != 2 for u in points):
        return False
    return any(sorted(map(sorted, ring(row))) == sorted(map(sorted, ways)) for row in permutations(points))


def is_two_or_ring(g, points):
    """Whether among four points are two ways without a common point, and no more, or two more that make a ring."""
    ways = ways_among(g, points)
    for way, other in combinations(ways, 2):
        if not way & other:
            more = [w for w in ways if w not in (way, other)]
            if not more or len(more) == 2 and is_ring(points, ways):
                return True
    return False


def slow_pf_parts(g):
    if not slow_is_graph(g):
        return [-2, 0, 0]
    near = neighbours(g)
    by_number = sorted(range(len(g)), key=lambda u: (-len(near[u]), u))
    m = max(place for place in range(1, len(g) + 1) if len(near[by_number[place - 1]]) >= place - 1)
    part = by_number[:m]
    if len(ways_among(g, part)) == m * (m - 1) // 2 and not ways_among(g, by_number[m:]):
        return told(1, [mask_of(part)], [])
    for four in combinations(range(len(g)), 4):
        if is_two_or_ring(g, four):
            return told(0, [mask_of(four)], [])
    for five in combinations(range(len(g)), 5):
        if is_ring(five, ways_among(g, five)):
            return told(0, [mask_of(five)], [])
    raise AssertionError(g)


def can_be_named(near, four):
    return any(b in near[a] and d in near[c] and c not in near[a] and d not in near[b]
               for a, b, c, d in permutations(four))


def slow_pf_steps(g):
    if not slow_is_graph(g):
        return [-2, 0, 0]
    near = neighbours(g)
    left = set(range(len(g)))
    steps = []
    while True:
        none = [u for u in left if not near[u] & left]
        every = [u for u in left if near[u] >= left - {u}]
        if not none + every:
            break
        u = min(none + every)
        left -= {u}
        steps.append(u + 128 if u in every and left else u)
    if not left:
        return told(1, steps, [])
    return told(0, next(four for four in combinations(range(len(g)), 4) if can_be_named(near, four)), [])
