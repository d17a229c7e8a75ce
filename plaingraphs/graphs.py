"""What is told of a graph, with its proof.

A graph is a list of masks: bit v of g[u] says that the points u and v are joined.
A set of points is a mask, too; a row of points is a list.
"""

MOST_POINTS = 32
NO_GRAPH = -2
NOT_ALL_GO = -3


def pf_order(g):
    """The points as they go, or the first of the shortest circles."""
    if not is_graph(g):
        return refusal(NO_GRAPH)
    order = going_order(g)
    if len(order) == len(g):
        return answer(0, order, [])
    circle = first_circle(g)
    return answer(len(circle), circle, [])


def pf_cliques(g):
    """The greatest cliques, and the ways of a tree of them."""
    if not is_graph(g):
        return refusal(NO_GRAPH)
    order = going_order(g)
    if len(order) < len(g):
        return refusal(NOT_ALL_GO)
    cliques = greatest_cliques(g, order)
    return answer(len(cliques), cliques, tree_ways(cliques))


def answer(number, row, second_row):
    return [number, len(row)] + row + [len(second_row)] + second_row


def refusal(number):
    return answer(number, [], [])


def is_graph(g):
    n = len(g)
    if n < 1 or n > MOST_POINTS:
        return False
    for u in range(n):
        if (g[u] >> n) != 0 or has_point(g[u], u):
            return False
        for v in range(u):
            if has_point(g[u], v) != has_point(g[v], u):
                return False
    return True


def has_point(mask, u):
    return ((mask >> u) & 1) == 1


def all_points(g):
    return (1 << len(g)) - 1


def without(mask, taken):
    return mask & ~taken


def least_point(mask):
    """The least point of a set that is not empty."""
    return (mask & -mask).bit_length() - 1


def points_of(mask):
    """The points of a set, rising."""
    points = []
    left = mask
    while left != 0:
        u = least_point(left)
        points.append(u)
        left = without(left, 1 << u)
    return points


def is_clique(g, mask):
    for u in points_of(mask):
        if without(mask, g[u]) != (1 << u):
            return False
    return True


def going_order(g):
    """The points as they go; fewer than all where some can't go."""
    order = []
    left = all_points(g)
    going = points_that_can_go(g, left)
    while going != []:
        order.append(going[0])
        left = without(left, 1 << going[0])
        going = points_that_can_go(g, left)
    return order


def points_that_can_go(g, left):
    return [u for u in points_of(left) if is_clique(g, g[u] & left)]


def first_circle(g):
    """The shortest circle, of several the first in order; g has one."""
    circles = []
    for u in range(len(g)):
        circles.extend(circles_from(g, u))
    shortest = min([len(circle) for circle in circles])
    return min([circle for circle in circles if len(circle) == shortest])


def circles_from(g, u):
    """For each two neighbours of u, the first of the shortest circles with them beside u, their least point."""
    # The rest of such a circle is a way between the two that keeps off u and its neighbours.
    # A shortest one has no short cut, so no two points of the ring are joined but those side by side.
    above = without(all_points(g), (1 << (u + 1)) - 1)
    neighbours = g[u] & above
    others = without(above, g[u])
    circles = []
    for a in points_of(neighbours):
        for b in points_of(without(neighbours, g[a])):
            if a < b:
                way = first_way(g, a, b, others)
                if way != []:
                    circles.append([u] + way)
    return circles


def first_way(g, a, b, inner):
    """The first in order of the shortest ways through inner between two that aren't joined; empty if there is none."""
    layers = layers_between(g, a, b, inner)
    if layers == []:
        return []
    way = [a]
    for layer in reversed(layers):
        way.append(least_point(g[way[-1]] & layer))
    return way


def layers_between(g, a, b, inner):
    """The points of inner by how far they are from b, from b itself up to the first that a is joined to."""
    layers = [1 << b]
    left = inner
    while (layers[-1] & g[a]) == 0:
        layer = joined_to_some(g, layers[-1]) & left
        if layer == 0:
            return []
        left = without(left, layer)
        layers.append(layer)
    return layers


def joined_to_some(g, mask):
    joined = 0
    for u in points_of(mask):
        joined = joined | g[u]
    return joined


def joined_to_all(g, mask):
    joined = all_points(g)
    for u in points_of(mask):
        joined = joined & g[u]
    return joined


def greatest_cliques(g, order):
    """The greatest cliques, rising, of a graph of which all points go in this order."""
    # The point of a clique that goes first has the whole of it among itself and its neighbours that are left.
    cliques = []
    left = all_points(g)
    for u in order:
        clique = (g[u] & left) | (1 << u)
        if joined_to_all(g, clique) == 0:
            cliques.append(clique)
        left = without(left, 1 << u)
    return sorted(cliques)


def tree_ways(cliques):
    """The tree's ways in the order in which they are found, two places each."""
    ways = []
    parts = list(range(len(cliques)))
    for pair in pairs_by_common(cliques):
        part = parts[pair[0]]
        other_part = parts[pair[1]]
        if part != other_part:
            ways.extend(pair)
            parts = [part if p == other_part else p for p in parts]
    return ways


def pairs_by_common(cliques):
    """The pairs of places, those with most common points first, then in order."""
    ranked = []
    for i in range(len(cliques)):
        for j in range(i + 1, len(cliques)):
            common = len(points_of(cliques[i] & cliques[j]))
            ranked.append((-common, i, j))
    return [[rank[1], rank[2]] for rank in sorted(ranked)]
