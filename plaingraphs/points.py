"""Sets of points as masks, ways between points, and circles.

A graph is a list of masks: bit v of g[u] says that the points u and v are joined.
"""

MOST_POINTS = 32


def is_graph(g):
    n = len(g)
    if n < 1 or n > MOST_POINTS:
        return False
    for u in range(n):
        if (g[u] >> n) != 0 or has_point(g[u], u):
            return False
        for v in range(u):
            if has_point(g[u], v) != has_point(g[v], u):
                return False
    return True


def has_point(mask, u):
    return ((mask >> u) & 1) == 1


def all_points(g):
    return (1 << len(g)) - 1


def without(mask, taken):
    return mask & ~taken


def least_point(mask):
    """The least point of a set that is not empty."""
    return (mask & -mask).bit_length() - 1


def points_of(mask):
    """The points of a set, rising."""
    points = []
    left = mask
    while left != 0:
        u = least_point(left)
        points.append(u)
        left = without(left, 1 << u)
    return points


def mask_of(points):
    mask = 0
    for u in points:
        mask = mask | (1 << u)
    return mask


def places_with(masks, u):
    """The places of the masks that have u, as a mask."""
    places = 0
    for k in range(len(masks)):
        if has_point(masks[k], u):
            places = places | (1 << k)
    return places


def by_most(masks):
    """The places of the masks, those with most points first, then by number."""
    return sorted(range(len(masks)), key=lambda k: -len(points_of(masks[k])))


def graph_of_others(g):
    """The graph in which just those are joined that aren't in g."""
    return [without(all_points(g), g[u] | (1 << u)) for u in range(len(g))]


def least_way(g):
    """The two points of the least way, the lesser first; empty if none are joined."""
    for u in range(len(g)):
        if g[u] != 0:
            return [u, least_point(g[u])]
    return []


def is_clique(g, mask):
    for u in points_of(mask):
        if without(mask, g[u]) != (1 << u):
            return False
    return True


def joined_to_some(g, mask):
    joined = 0
    for u in points_of(mask):
        joined = joined | g[u]
    return joined


def joined_to_all(g, mask):
    joined = all_points(g)
    for u in points_of(mask):
        joined = joined & g[u]
    return joined


def first_way(g, a, b, inner):
    """The first in order of the shortest ways through inner between two that aren't joined; empty if there is none."""
    layers = layers_between(g, a, b, inner)
    if layers == []:
        return []
    way = [a]
    for layer in reversed(layers):
        way.append(least_point(g[way[-1]] & layer))
    return way


def layers_between(g, a, b, inner):
    """The points of inner by how far they are from b, from b itself up to the first that a is joined to."""
    layers = [1 << b]
    left = inner
    while (layers[-1] & g[a]) == 0:
        layer = joined_to_some(g, layers[-1]) & left
        if layer == 0:
            return []
        left = without(left, layer)
        layers.append(layer)
    return layers


def first_circle(g):
    """The shortest circle, of several the first in order; g has one."""
    circles = []
    for u in range(len(g)):
        circles.extend(circles_from(g, u))
    shortest = min([len(circle) for circle in circles])
    return min([circle for circle in circles if len(circle) == shortest])


def circles_from(g, u):
    """For each two neighbours of u, the first of the shortest circles with them beside u, their least point."""
    # The rest of such a circle is a way between the two that keeps off u and its neighbours.
    # A shortest one has no short cut, so no two points of the ring are joined but those side by side.
    above = without(all_points(g), (1 << (u + 1)) - 1)
    neighbours = g[u] & above
    others = without(above, g[u])
    circles = []
    for a in points_of(neighbours):
        for b in points_of(without(neighbours, g[a])):
            if a < b:
                way = first_way(g, a, b, others)
                if way != []:
                    circles.append([u] + way)
    return circles


def parts_off(g, u):
    """For each point the part that it's in once u and its neighbours are away; these have an empty one."""
    parts = [0 for v in range(len(g))]
    left = without(all_points(g), g[u] | (1 << u))
    while left != 0:
        part = part_around(g, left & -left, left)
        for v in points_of(part):
            parts[v] = part
        left = without(left, part)
    return parts


def part_around(g, start, inside):
    """The points that ways inside lead to from the start."""
    part = 0
    grown = start
    while grown != part:
        part = grown
        grown = part | (joined_to_some(g, part) & inside)
    return part
