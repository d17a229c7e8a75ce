"""What is told of a graph, with its proof.

A graph is a list of masks: bit v of g[u] says that the points u and v are joined.
A set of points is a mask, too; a row of points is a list.
"""
from plaingraphs.points import (all_points, by_most, first_circle, graph_of_others, has_point, is_clique, is_graph,
                                joined_to_all, joined_to_some, least_point, least_way, mask_of, parts_off, places_with,
                                points_of, without)

NO_GRAPH = -2
NOT_ALL_GO = -3
WAS_JOINED_TO_ALL = 128
# Four points can be paired in three manners: how many of both pairs are joined, the fewest first. These are the kinds
# with a manner in which both are joined and one in which neither is: a with b, c with d, and a with c, b with d.
TWO_APART = (0, 0, 2)
ROW_OF_FOUR = (0, 1, 2)
RING_OF_FOUR = (0, 2, 2)


def pf_order(g):
    """The points as they go, or the first of the shortest circles."""
    if not is_graph(g):
        return refusal(NO_GRAPH)
    order = going_order(g)
    if len(order) == len(g):
        return answer(0, order, [])
    circle = first_circle(g)
    return answer(len(circle), circle, [])


def pf_cliques(g):
    """The greatest cliques, and the ways of a tree of them."""
    if not is_graph(g):
        return refusal(NO_GRAPH)
    order = going_order(g)
    if len(order) < len(g):
        return refusal(NOT_ALL_GO)
    cliques = greatest_cliques(g, order)
    return answer(len(cliques), cliques, tree_ways(cliques))


def pf_greatest(g):
    """A largest clique, a set of points of which none are joined, and a colour for each point."""
    if not is_graph(g):
        return refusal(NO_GRAPH)
    order = going_order(g)
    if len(order) < len(g):
        return refusal(NOT_ALL_GO)
    clique = largest_clique(greatest_cliques(g, order))
    return answer(len(points_of(clique)), [clique, unjoined_set(g, order)], colours_along(g, order))


def pf_spans(g):
    """A span on a line for each point, or three points for which there can be none."""
    if not is_graph(g):
        return refusal(NO_GRAPH)
    order = going_order(g)
    if len(order) < len(g):
        return answer(2, [], [])
    cliques = greatest_cliques(g, order)
    holders = [places_with(cliques, u) for u in range(len(g))]
    line = first_line(holders, len(cliques))
    if line == []:
        return answer(3, first_three_apart(g), [])
    return answer(1, spans_on(line, holders), [])


def pf_turns(g):
    """Where each point is turned to, and its height; or the two points with which a round began that fails."""
    if not is_graph(g):
        return refusal(NO_GRAPH)
    turns = turned_by_rounds(g)
    failed = least_way(ways_not_turned(g, turns))
    if failed != []:
        return answer(0, failed, [])
    return answer(1, turns, heights_by(turns))


def pf_rows(g):
    """Two rows of the points in which just those that are joined change their order; or why there are none."""
    if not is_graph(g):
        return refusal(NO_GRAPH)
    turns = turned_by_rounds(g)
    if least_way(ways_not_turned(g, turns)) != []:
        return answer(0, [], [])
    others = graph_of_others(g)
    other_turns = turned_by_rounds(others)
    if least_way(ways_not_turned(others, other_turns)) != []:
        return answer(2, [], [])
    return answer(1, two_rows(g, turns, other_turns), [])


def pf_parts(g):
    """A clique, where of the points beside it none are joined; or four or five points that can't be parted so."""
    if not is_graph(g):
        return refusal(NO_GRAPH)
    part = part_with_most(g)
    others = without(all_points(g), part)
    if is_clique(g, part) and (joined_to_some(g, others) & others) == 0:
        return answer(1, [part], [])
    four = first_four(g, (TWO_APART, RING_OF_FOUR))
    if four != []:
        return answer(0, [mask_of(four)], [])
    # Without such four, each point beside a circle of five is joined to all of it or to none: so there's just one.
    return answer(0, [mask_of(first_circle(g))], [])


def pf_steps(g):
    """Each point as it goes, by none or all of the others; or four points of which none can go."""
    if not is_graph(g):
        return refusal(NO_GRAPH)
    steps = going_steps(g)
    if len(steps) == len(g):
        return answer(1, steps, [])
    return answer(0, first_four(g, (TWO_APART, ROW_OF_FOUR, RING_OF_FOUR)), [])


def answer(number, row, second_row):
    return [number, len(row)] + row + [len(second_row)] + second_row


def refusal(number):
    return answer(number, [], [])


def going_order(g):
    """The points as they go; fewer than all where some can't go."""
    order = []
    left = all_points(g)
    going = points_that_can_go(g, left)
    while going != []:
        order.append(going[0])
        left = without(left, 1 << going[0])
        going = points_that_can_go(g, left)
    return order


def points_that_can_go(g, left):
    return [u for u in points_of(left) if is_clique(g, g[u] & left)]


def greatest_cliques(g, order):
    """The greatest cliques, rising, of a graph of which all points go in this order."""
    # The point of a clique that goes first has the whole of it among itself and its neighbours that are left.
    cliques = []
    left = all_points(g)
    for u in order:
        clique = (g[u] & left) | (1 << u)
        if joined_to_all(g, clique) == 0:
            cliques.append(clique)
        left = without(left, 1 << u)
    return sorted(cliques)


def tree_ways(cliques):
    """The tree's ways in the order in which they are found, two places each."""
    ways = []
    parts = list(range(len(cliques)))
    for pair in pairs_by_common(cliques):
        part = parts[pair[0]]
        other_part = parts[pair[1]]
        if part != other_part:
            ways.extend(pair)
            parts = [part if p == other_part else p for p in parts]
    return ways


def pairs_by_common(cliques):
    """The pairs of places, those with most common points first, then in order."""
    ranked = []
    for i in range(len(cliques)):
        for j in range(i + 1, len(cliques)):
            common = len(points_of(cliques[i] & cliques[j]))
            ranked.append((-common, i, j))
    return [[rank[1], rank[2]] for rank in sorted(ranked)]


def largest_clique(cliques):
    """Of the largest cliques the least mask; the masks rise."""
    sizes = [len(points_of(clique)) for clique in cliques]
    return cliques[sizes.index(max(sizes))]


def unjoined_set(g, order):
    """Along the order each point that's joined to none of the set so far."""
    unjoined = 0
    for u in order:
        if (g[u] & unjoined) == 0:
            unjoined = unjoined | (1 << u)
    return unjoined


def colours_along(g, order):
    """For each point its colour; they are given from the order's end on."""
    colours = [0 for u in order]
    coloured = 0
    for u in reversed(order):
        colours[u] = least_besides([colours[v] for v in points_of(g[u] & coloured)])
        coloured = coloured | (1 << u)
    return colours


def least_besides(taken):
    number = 0
    while number in taken:
        number = number + 1
    return number


def first_line(holders, count):
    """The first order of the places in which those of each holder stand one behind another; empty if there is none."""
    # A holder is the mask of the places of one point's cliques.
    # Groups of places stand in the order that is certain by now; the first k of them have one place each.
    groups = [(1 << count) - 1]
    for k in range(count):
        groups = with_first_chosen(groups, k, holders)
        if groups == []:
            return []
    return [least_point(group) for group in groups]


def with_first_chosen(groups, k, holders):
    """The groups once the least place that can be the first of group k stands there; empty if none can."""
    # Where the groups can be parted so, each holder has whole groups or lies within one. So what is chosen in one group
    # is nothing to the others, and a place that passes here fails only where every place would.
    for place in points_of(groups[k]):
        chosen = [1 << place, without(groups[k], 1 << place)]
        parted = parted_by_all(not_empty(groups[:k] + chosen + groups[k + 1:]), holders)
        if parted != []:
            return parted
    return []


def parted_by_all(groups, holders):
    """The groups, parted until no holder parts them more; empty if some holder can't stand together."""
    parted = groups
    before = 0
    while len(parted) > before:
        before = len(parted)
        for holder in holders:
            parted = parted_by(parted, holder)
            if parted == []:
                return []
    return parted


def parted_by(groups, holder):
    """The groups, parted at both ends of a holder that reaches over several; empty if it can't stand together."""
    reached = [k for k in range(len(groups)) if (groups[k] & holder) != 0]
    first = reached[0]
    last = reached[-1]
    if first == last:
        return groups
    for group in groups[first + 1:last]:
        if without(group, holder) != 0:
            return []
    head = groups[:first] + [without(groups[first], holder), groups[first] & holder]
    tail = [groups[last] & holder, without(groups[last], holder)] + groups[last + 1:]
    return not_empty(head + groups[first + 1:last] + tail)


def not_empty(masks):
    return [mask for mask in masks if mask != 0]


def spans_on(line, holders):
    """For each holder the first and the last place on the line that it has."""
    spans = []
    for holder in holders:
        stands = [k for k in range(len(line)) if has_point(holder, line[k])]
        spans.extend([stands[0], stands[-1]])
    return spans


def first_three_apart(g):
    """The first three points of which any two have a way off the third and its neighbours; empty if there are none."""
    parts = [parts_off(g, u) for u in range(len(g))]
    for a in range(len(g)):
        for b in range(a + 1, len(g)):
            for c in points_of(parts[a][b] & parts[b][a]):
                if b < c and has_point(parts[c][a], b):
                    return [a, b, c]
    return []


def turned_by_rounds(g):
    """For each point the mask of those to which it's turned, by all the rounds ahead of one that fails."""
    turns = [0 for u in range(len(g))]
    left = ways_not_turned(g, turns)
    while least_way(left) != []:
        turned = turned_with(left, least_way(left))
        if some_both_ways(turned):
            return turns
        turns = [turns[u] | turned[u] for u in range(len(g))]
        left = ways_not_turned(g, turns)
    return turns


def ways_not_turned(g, turns):
    """The graph of the ways that are turned in neither direction."""
    return [without(g[u], turns[u] | places_with(turns, u)) for u in range(len(g))]


def turned_with(left, way):
    """For each point the mask of those to which it's turned once the way is, by all that must be in this round."""
    turned = [0 for u in range(len(left))]
    waiting = [way]
    while waiting != []:
        pair = waiting.pop()
        a = pair[0]
        b = pair[1]
        if not has_point(turned[a], b):
            turned[a] = turned[a] | (1 << b)
            waiting.extend([[a, c] for c in points_of(without(left[a], left[b]))])
            waiting.extend([[c, b] for c in points_of(without(left[b], left[a]))])
    return turned


def some_both_ways(turned):
    return any([(turned[u] & places_with(turned, u)) != 0 for u in range(len(turned))])


def heights_by(turns):
    """For each point 1 more than the greatest height of those to which it's turned."""
    # Where u is turned to v, it's turned to all to which v is, too: so v has fewer, and its height is known by then.
    heights = [1 for u in range(len(turns))]
    for u in reversed(by_most(turns)):
        heights[u] = 1 + max([heights[v] for v in points_of(turns[u])], default=0)
    return heights


def two_rows(g, turns, other_turns):
    """The points by both turns, then by the other's and those of g turned round, one row behind the other."""
    # In each row one of any two stands first, and they never go round in a ring: so it's by how many stand behind.
    behind = [turns[u] | other_turns[u] for u in range(len(g))]
    behind_then = [without(g[u], turns[u]) | other_turns[u] for u in range(len(g))]
    return by_most(behind) + by_most(behind_then)


def part_with_most(g):
    """The points by how many are joined to them, up to the last place m whose point has m - 1 or more."""
    # Along the places the points have ever fewer while m rises: so it's just the points that have enough themselves.
    order = by_most(g)
    return mask_of([order[k] for k in range(len(g)) if len(points_of(g[order[k]])) >= k])


def first_four(g, kinds):
    """The first four points, in order, that are of one of the kinds; empty if there are none."""
    for a in range(len(g)):
        for b in range(a + 1, len(g)):
            for c in range(b + 1, len(g)):
                for d in range(c + 1, len(g)):
                    if kind_of_four(g, a, b, c, d) in kinds:
                        return [a, b, c, d]
    return []


def kind_of_four(g, a, b, c, d):
    return tuple(sorted([joined_pairs(g, a, b, c, d), joined_pairs(g, a, c, b, d), joined_pairs(g, a, d, b, c)]))


def joined_pairs(g, a, b, c, d):
    """How many of the two pairs, a with b and c with d, are joined."""
    return ((g[a] >> b) & 1) + ((g[c] >> d) & 1)


def going_steps(g):
    """Each point as it goes, marked if it was joined to all and there were others; fewer where some can't go."""
    steps = []
    left = all_points(g)
    going = points_with_none_or_all(g, left)
    while going != []:
        u = going[0]
        steps.append(u if (g[u] & left) == 0 else u + WAS_JOINED_TO_ALL)
        left = without(left, 1 << u)
        going = points_with_none_or_all(g, left)
    return steps


def points_with_none_or_all(g, left):
    """The points left that are joined to none of the others left, or to all."""
    return [u for u in points_of(left) if (g[u] & left) in (0, without(left, 1 << u))]
