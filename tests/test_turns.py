"""Promise 5: pf_turns."""
import itertools
import unittest

from plaingraphs.graphs import pf_turns
from samples import (graph, graph_of_rows, graphs_of, mask_of, neighbours, others_of, ring, searched_cliques,
                     shuffled, slow_pf_turns, spans_graph, thrown_graph, thrown_row, thrown_spans)


def pairs_told(told):
    """The turns of an answer 1, as pairs."""
    return {(u, v) for u, mask in enumerate(told[2:2 + told[1]]) for v in range(32) if mask >> v & 1}


class Turned(unittest.TestCase):
    def turned(self, n, turns, heights):
        """The graph of these ways is turned just so."""
        masks = [mask_of(v for w, v in turns if w == u) for u in range(n)]
        self.assertEqual(pf_turns(graph(n, turns)), [1, n] + masks + [n] + heights)

    def test_one_point_alone(self):
        self.assertEqual(pf_turns([0]), [1, 1, 0, 1, 1])

    def test_none_joined(self):
        self.turned(2, [], [1, 1])
        self.turned(5, [], [1] * 5)
        self.turned(32, [], [1] * 32)

    def test_all_joined(self):
        self.assertEqual(pf_turns([2, 1]), [1, 2, 2, 0, 2, 2, 1])
        self.turned(3, [(0, 1), (0, 2), (1, 2)], [3, 2, 1])
        self.turned(4, list(itertools.combinations(range(4), 2)), [4, 3, 2, 1])
        self.turned(32, list(itertools.combinations(range(32), 2)), list(range(32, 0, -1)))

    def test_three_points_in_a_way(self):
        self.turned(3, [(0, 1), (2, 1)], [2, 1, 2])
        self.turned(3, [(0, 1), (0, 2)], [2, 1, 1])
        self.turned(3, [(0, 2), (1, 2)], [2, 2, 1])

    def test_longer_ways(self):
        self.turned(4, [(0, 1), (2, 1), (2, 3)], [2, 1, 2, 1])
        self.turned(4, [(0, 1), (0, 2), (3, 1)], [2, 1, 1, 2])
        self.turned(5, [(0, 3), (0, 4), (1, 4), (2, 3)], [2, 2, 2, 1, 1])
        self.turned(32, [(u, v) for u in range(0, 32, 2) for v in (u - 1, u + 1) if v >= 0], [2, 1] * 16)

    def test_rings(self):
        self.turned(4, [(0, 1), (0, 3), (2, 1), (2, 3)], [2, 1, 2, 1])
        self.turned(4, [(0, 2), (0, 3), (1, 2), (1, 3)], [2, 2, 1, 1])
        self.turned(6, [(0, 1), (0, 5), (2, 1), (2, 3), (4, 3), (4, 5)], [2, 1, 2, 1, 2, 1])
        for n in range(4, 33, 2):
            self.turned(n, [(u, v % n) for u in range(0, n, 2) for v in (u - 1, u + 1)], [2, 1] * (n // 2))

    def test_several_parts(self):
        self.turned(4, [(0, 3), (1, 2)], [2, 2, 1, 1])
        self.turned(7, [(0, 4), (6, 4), (1, 2), (1, 3), (2, 3)], [2, 3, 2, 1, 1, 1, 2])

        # 0 1 brings 5 1 with it, then 2 3 brings 4 3
        self.turned(6, [(0, 1), (5, 1), (2, 3), (4, 3)], [2, 1, 2, 1, 2, 2])

    def test_three_joined_and_one_at_them(self):
        # 3 is joined to 0: 0 1 brings 0 3 and 0 2 with it; then 1 2
        self.turned(4, [(0, 1), (0, 2), (0, 3), (1, 2)], [3, 2, 1, 1])
        # 3 is joined to 1: 0 1 brings 3 1 and 2 1 with it; then 0 2
        self.turned(4, [(0, 1), (3, 1), (2, 1), (0, 2)], [3, 1, 2, 2])
        # 3 is joined to 2: 0 1 is alone; then 0 2 brings 3 2, and 1 2, as 0 1 was turned before
        self.turned(4, [(0, 1), (0, 2), (1, 2), (3, 2)], [3, 2, 1, 2])

    def test_a_later_round_brings_what_is_joined_to_a_way_turned_before(self):
        # 0 1 alone; 0 2 with 1 2; 0 3 with 1 3 and 2 3, and 4 3, 4 being joined to none but 3
        self.turned(5, [(0, 1), (0, 2), (1, 2), (0, 3), (1, 3), (2, 3), (4, 3)], [4, 3, 2, 1, 2])

    def test_three_pairs_all_joined_but_within_them(self):
        self.turned(6, [(u, v) for u, v in itertools.combinations(range(6), 2) if u // 2 != v // 2],
                    [3, 3, 2, 2, 1, 1])

    def test_a_middle_height_by_the_greatest_of_those_below(self):
        # 0 is turned to 1, 2 and 3 of the heights 2, 1 and 1; 4 to 3 alone
        self.turned(5, [(0, 1), (0, 2), (0, 3), (1, 2), (4, 3)], [3, 2, 1, 1, 2])

    def test_greater_points_below_and_above(self):
        # four points all joined, 2 with an end of its own, 4: 0 1 alone, then all that 2 has to 2, then 0 3 with 1 3
        self.turned(5, [(0, 1), (0, 2), (1, 2), (3, 2), (4, 2), (0, 3), (1, 3)], [4, 3, 1, 2, 2])

    def test_32_points_with_many_ways(self):
        two = [(u, v) for u in range(16) for v in range(16, 32)]
        self.turned(32, two, [2] * 16 + [1] * 16)
        pairs = [(u, v) for u, v in itertools.combinations(range(32), 2) if u // 2 != v // 2]
        self.turned(32, pairs, [16 - u // 2 for u in range(32)])
        self.turned(32, [(u, 31) for u in range(31)], [2] * 31 + [1])
        self.turned(32, [(0, u) for u in range(1, 32)], [2] + [1] * 31)
        self.turned(32, [(0, 17)] + [(u, 17) for u in range(1, 32) if u != 17], [2] * 17 + [1] + [2] * 14)

    def test_32_points_in_rows(self):
        for seed in range(30):
            g = graph_of_rows([thrown_row(32, 7 * seed + k) for k in range(1 + seed % 5)])
            with self.subTest(g=g):
                told = pf_turns(g)
                self.assertEqual(told[0], 1)
                self.assertEqual(told, slow_pf_turns(g))

    def test_others_of_32_points_of_spans(self):
        for seed in range(12):
            g = others_of(spans_graph(thrown_spans(32, 4 << seed % 4, 2 + seed % 7, seed), seed))
            with self.subTest(g=g):
                told = pf_turns(g)
                self.assertEqual(told[0], 1)
                self.assertEqual(told, slow_pf_turns(g))


class Fails(unittest.TestCase):
    def fails(self, g, a, b):
        self.assertEqual(pf_turns(g), [0, 2, a, b, 0])

    def test_ring_of_five(self):
        self.fails(graph(5, ring([0, 1, 2, 3, 4])), 0, 1)
        self.fails(graph(5, ring([2, 4, 1, 3, 0])), 0, 2)
        self.fails(graph(5, ring([0, 3, 1, 2, 4])), 0, 3)

    def test_greater_rings(self):
        for n in range(5, 33, 2):
            self.fails(graph(n, ring(list(range(n)))), 0, 1)
            self.fails(graph(32, ring(list(range(32 - n, 32)))), 32 - n, 33 - n)

    def test_the_other_ways_of_a_ring_of_six(self):
        self.fails(others_of(graph(6, ring(list(range(6))))), 0, 2)

    def test_another_part_is_turned_first(self):
        self.fails(graph(7, [(0, 1)] + ring([2, 3, 4, 5, 6])), 2, 3)
        self.fails(graph(7, [(0, 6)] + ring([1, 5, 2, 4, 3])), 1, 3)
        self.fails(graph(8, ring([0, 1, 2]) + ring([3, 4, 5, 6, 7])), 3, 4)
        self.fails(graph(8, ring([5, 6, 7]) + ring([0, 1, 2, 3, 4])), 0, 1)

    def test_two_that_fail(self):
        self.fails(graph(10, ring([1, 3, 5, 7, 9]) + ring([2, 4, 0, 6, 8])), 0, 4)
        self.fails(graph(12, [(0, 1)] + ring([3, 4, 5, 6, 7]) + ring([2, 8, 9, 10, 11])), 2, 8)

    def test_a_point_joined_to_all_of_a_ring(self):
        # all ways of 0 are turned from it, then the ring fails
        self.fails(graph(6, ring([1, 2, 3, 4, 5]) + [(0, u) for u in range(1, 6)]), 1, 2)
        # all ways of 1 are turned to it, by 0 1
        self.fails(graph(6, ring([0, 2, 3, 4, 5]) + [(1, u) for u in (0, 2, 3, 4, 5)]), 0, 2)
        # the ring has the least way
        self.fails(graph(6, ring([0, 1, 2, 3, 4]) + [(5, u) for u in range(5)]), 0, 1)

    def test_two_points_joined_to_all_of_a_ring(self):
        # 0 1 alone, then 0 with all of the ring, and 1 too; then the ring
        joined = [(0, 1)] + [(u, v) for u in (0, 1) for v in range(2, 7)]
        self.fails(graph(7, joined + ring([2, 3, 4, 5, 6])), 2, 3)

    def test_the_least_way_of_the_round_is_not_in_the_ring(self):
        # 0 hangs at the ring: 0 1 brings its ways with it, and they go both ways
        self.fails(graph(6, [(0, 1)] + ring([1, 2, 3, 4, 5])), 0, 1)
        self.fails(graph(7, [(0, 6), (6, 1)] + ring([1, 2, 3, 4, 5])), 0, 6)

    def test_32_points(self):
        for seed in range(12):
            g = thrown_graph(32, 8 * seed + 5, seed)
            with self.subTest(g=g):
                self.assertEqual(pf_turns(g), slow_pf_turns(g))
        # 27 points all joined, then a ring that they are joined to
        ways = [(u, v) for u in range(27) for v in range(u + 1, 32)]
        self.fails(graph(32, ways + ring([27, 28, 29, 30, 31])), 27, 28)
        self.fails(graph(32, ways + ring([27, 31, 28, 30, 29])), 27, 29)
        # none joined but in the ring
        self.fails(graph(32, ring([27, 31, 28, 30, 29])), 27, 29)

    def test_32_points_of_which_a_late_round_fails(self):
        for seed in range(12):
            first = graph_of_rows([thrown_row(25, seed), thrown_row(25, seed + 50)])
            ways = [(u, v) for u, v in itertools.combinations(range(25), 2) if first[u] >> v & 1]
            g = graph(32, ways + ring([25, 26, 27, 28, 29, 30, 31]))
            self.fails(g, 25, 26)
            g = shuffled(g, seed)
            self.assertEqual(pf_turns(g), slow_pf_turns(g), g)


class Proof(unittest.TestCase):
    def each_way_once_and_on_and_on(self, g, told):
        turns = pairs_told(told)
        self.assertEqual(len(turns), sum(len(near) for near in neighbours(g)) // 2)
        for u, v in turns:
            self.assertTrue(g[u] >> v & 1)
            self.assertNotIn((v, u), turns)
            for w in range(len(g)):
                if (v, w) in turns:
                    self.assertIn((u, w), turns)

    def test_where_u_is_turned_to_v_and_v_to_w_u_is_to_w(self):
        for seed in range(20):
            g = graph_of_rows([thrown_row(24, 9 * seed + k) for k in range(2 + seed % 3)])
            self.each_way_once_and_on_and_on(g, pf_turns(g))

    def test_as_many_heights_as_the_largest_clique_has_points(self):
        for seed in range(20):
            g = graph_of_rows([thrown_row(32, 9 * seed + k) for k in range(2 + seed % 3)])
            heights = pf_turns(g)[35:]
            self.assertEqual(max(heights), max(bin(clique).count("1") for clique in searched_cliques(g)))
            for u, near in enumerate(neighbours(g)):
                for v in near:
                    self.assertNotEqual(heights[u], heights[v])

    def test_0_just_where_no_turns_go_on_and_on(self):
        for n in range(1, 6):
            can_be = set()
            for ways in itertools.product(range(3), repeat=n * (n - 1) // 2):
                turns = set()
                for (u, v), way in zip(itertools.combinations(range(n), 2), ways):
                    turns |= {(u, v)} if way == 1 else {(v, u)} if way == 2 else set()
                if all((a, d) in turns for a, b in turns for c, d in turns if b == c):
                    can_be.add(tuple(graph(n, turns)))
            for g in graphs_of(n):
                self.assertEqual(pf_turns(g)[0], 1 if tuple(g) in can_be else 0, g)


class AgainstTheSlowReading(unittest.TestCase):
    def test_every_graph_of_up_to_6_points(self):
        for n in range(1, 7):
            for g in graphs_of(n):
                self.assertEqual(pf_turns(g), slow_pf_turns(g), g)

    def test_thrown_graphs(self):
        for seed in range(300):
            g = thrown_graph(7 + seed % 5, 10 + seed % 9 * 10, seed)
            self.assertEqual(pf_turns(g), slow_pf_turns(g), g)

    def test_graphs_of_rows(self):
        for seed in range(200):
            g = graph_of_rows([thrown_row(7 + seed % 7, 9 * seed + k) for k in range(2 + seed % 3)])
            self.assertEqual(pf_turns(g), slow_pf_turns(g), g)


if __name__ == "__main__":
    unittest.main()
