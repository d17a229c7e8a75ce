"""Promise 2: pf_cliques."""
import unittest

from plaingraphs.graphs import pf_cliques
from samples import (full, graph, graphs_of, grown_graph, ring, searched_cliques, slow_pf_cliques, thrown_graph)


class Refused(unittest.TestCase):
    def test_not_all_go(self):
        for n in range(4, 33):
            self.assertEqual(pf_cliques(graph(n, ring(list(range(n))))), [-3, 0, 0])
        self.assertEqual(pf_cliques(graph(5, [(0, 1)] + ring([1, 2, 3, 4]))), [-3, 0, 0])
        self.assertEqual(pf_cliques(graph(6, ring([0, 2, 1, 3]) + [(4, 5)])), [-3, 0, 0])

    def test_not_all_go_of_32_points(self):
        self.assertEqual(pf_cliques(graph(32, ring([28, 29, 31, 30]) + [(u, u + 1) for u in range(28)])), [-3, 0, 0])
        self.assertEqual(pf_cliques(thrown_graph(32, 50, 1)), [-3, 0, 0])


class Told(unittest.TestCase):
    def cliques(self, g, masks, ways):
        self.assertEqual(pf_cliques(g), [len(masks)] + [len(masks)] + masks + [len(ways)] + ways)

    def test_one_point_alone(self):
        self.cliques([0], [1], [])

    def test_all_joined(self):
        self.cliques([2, 1], [3], [])
        self.cliques(full(5), [31], [])
        self.cliques(full(32), [4294967295], [])

    def test_no_common_point(self):
        self.cliques([0, 0], [1, 2], [0, 1])
        self.cliques([0, 0, 0, 0], [1, 2, 4, 8], [0, 1, 0, 2, 0, 3])
        self.cliques(graph(5, [(0, 4), (1, 3)]), [4, 10, 17], [0, 1, 0, 2])
        self.cliques([0] * 32, [1 << u for u in range(32)], [place for v in range(1, 32) for place in (0, v)])

    def test_common_points_come_ahead_of_none(self):
        # the places 1 and 2 have a common point; only then 0 is joined to 1
        self.cliques(graph(4, [(1, 2), (2, 3)]), [1, 6, 12], [1, 2, 0, 1])
        self.cliques(graph(6, [(0, 5), (1, 4), (1, 3)]), [4, 10, 18, 33], [1, 2, 0, 1, 0, 3])

    def test_masks_rise(self):
        self.cliques(graph(3, [(0, 1), (1, 2)]), [3, 6], [0, 1])
        self.cliques(graph(3, [(0, 2), (0, 1)]), [3, 5], [0, 1])
        # as they go, {0, 3} comes ahead of {1, 2}
        self.cliques(graph(4, [(0, 3), (1, 2)]), [6, 9], [0, 1])

    def test_a_part_of_a_clique_is_not_told(self):
        self.cliques(graph(5, [(0, 1), (0, 2), (1, 2), (2, 3)]), [7, 12, 16], [0, 1, 0, 2])

    def test_most_common_points_first(self):
        self.cliques(graph(5, [(0, 1), (1, 2), (1, 3), (2, 3), (2, 4), (3, 4)]), [3, 14, 28], [1, 2, 0, 1])
        self.cliques(graph(6, [(0, 1), (1, 2), (0, 2), (2, 3), (3, 4), (4, 5), (3, 5), (2, 4), (2, 5)]),
                     [7, 60], [0, 1])

    def test_then_in_order(self):
        # all pairs have the one point in common
        self.cliques(graph(4, [(0, 1), (0, 2), (0, 3)]), [3, 5, 9], [0, 1, 0, 2])
        self.cliques(graph(5, [(4, 0), (4, 1), (4, 2), (4, 3)]), [17, 18, 20, 24], [0, 1, 0, 2, 0, 3])
        self.cliques(graph(5, [(u, u + 1) for u in range(4)]), [3, 6, 12, 24], [0, 1, 1, 2, 2, 3])

    def test_only_what_is_not_joined_yet(self):
        # four triangles on the way 0 - 1: each two have both points in common
        ways = [(0, 1)] + [(u, v) for u in (0, 1) for v in (2, 3, 4, 5)]
        self.cliques(graph(6, ways), [7, 11, 19, 35], [0, 1, 0, 2, 0, 3])
        # the places 0 and 3, 1 and 2 are joined first; of the pairs with one common point just one is left
        ways = [(0, 1), (0, 2), (1, 2), (0, 3), (0, 4), (3, 4), (4, 5), (0, 5), (1, 6), (0, 6)]
        self.cliques(graph(7, ways), [7, 25, 49, 67], [0, 3, 1, 2, 0, 1])

    def test_32_points(self):
        line = graph(32, [(u, u + 1) for u in range(31)])
        self.cliques(line, [3 << u for u in range(31)], [place for u in range(30) for place in (u, u + 1)])
        star = graph(32, [(31, u) for u in range(31)])
        self.cliques(star, [(1 << 31) + (1 << u) for u in range(31)], [place for u in range(1, 31) for place in (0, u)])

    def test_32_points_grown(self):
        for seed in range(20):
            g = grown_graph(32, 1 + seed % 12, seed)
            with self.subTest(g=g):
                told = pf_cliques(g)
                self.assertGreater(told[0], 1)
                self.assertEqual(told[1], told[0])
                self.assertEqual(told[2 + told[0]], 2 * (told[0] - 1))
                self.assertEqual(told, slow_pf_cliques(g, searched_cliques))


class AgainstTheSlowReading(unittest.TestCase):
    def test_every_graph_of_up_to_6_points(self):
        for n in range(1, 7):
            for g in graphs_of(n):
                self.assertEqual(pf_cliques(g), slow_pf_cliques(g), g)

    def test_grown_graphs(self):
        for seed in range(200):
            g = grown_graph(7 + seed % 4, 1 + seed % 5, seed)
            self.assertEqual(pf_cliques(g), slow_pf_cliques(g), g)


if __name__ == "__main__":
    unittest.main()
