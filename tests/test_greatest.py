"""Promise 3: pf_greatest."""
import unittest

from plaingraphs.graphs import pf_greatest
from samples import (full, graph, graphs_of, grown_graph, mask_of, neighbours, ring, searched_cliques, slow_pf_greatest,
                     spans_graph, thrown_graph, thrown_spans)


class Refused(unittest.TestCase):
    def refused(self, g):
        self.assertEqual(pf_greatest(g), [-3, 0, 0])

    def test_not_all_go(self):
        for n in range(4, 33):
            self.refused(graph(n, ring(list(range(n)))))
        self.refused(graph(5, [(0, 1)] + ring([1, 2, 3, 4])))
        self.refused(graph(6, ring([0, 2, 1, 3]) + [(4, 5)]))

    def test_not_all_go_of_32_points(self):
        self.refused(graph(32, ring([28, 29, 31, 30]) + [(u, u + 1) for u in range(28)]))
        self.refused(thrown_graph(32, 50, 1))


class Told(unittest.TestCase):
    def greatest(self, g, clique, unjoined, colours):
        self.assertEqual(pf_greatest(g), [len(clique), 2, mask_of(clique), mask_of(unjoined), len(colours)] + colours)

    def test_one_point_alone(self):
        self.assertEqual(pf_greatest([0]), [1, 2, 1, 1, 1, 0])

    def test_none_joined(self):
        self.greatest([0, 0], [0], [0, 1], [0, 0])
        self.greatest([0] * 5, [0], range(5), [0] * 5)
        self.greatest([0] * 32, [0], range(32), [0] * 32)

    def test_all_joined(self):
        self.greatest([2, 1], [0, 1], [0], [1, 0])
        self.greatest(full(5), range(5), [0], [4, 3, 2, 1, 0])
        self.greatest(full(32), range(32), [0], list(range(31, -1, -1)))

    def test_trees(self):
        # they go 1 2 0 3
        self.greatest(graph(4, [(0, 1), (0, 2), (0, 3)]), [0, 1], [1, 2, 3], [1, 0, 0, 0])
        # they go 0 1 2 3
        self.greatest(graph(4, [(3, 0), (3, 1), (3, 2)]), [0, 3], [0, 1, 2], [1, 1, 1, 0])
        # they go 3 4 1 0 5 2 6
        self.greatest(graph(7, [(0, 1), (0, 2), (1, 3), (1, 4), (2, 5), (2, 6)]),
                      [0, 1], [3, 4, 0, 5, 6], [0, 1, 1, 0, 0, 0, 0])

    def test_the_largest_is_not_the_least_mask(self):
        self.greatest(graph(4, [(0, 1), (1, 2), (1, 3), (2, 3)]), [1, 2, 3], [0, 2], [0, 2, 1, 0])
        # {2, 3, 4} has a greater mask than {0, 1}, and a lesser one than {0, 5}
        self.greatest(graph(6, [(0, 1), (0, 5), (2, 3), (2, 4), (3, 4)]), [2, 3, 4], [1, 2, 5], [1, 0, 2, 1, 0, 0])

    def test_the_least_mask_of_several(self):
        # {0, 5, 6} has the least point, {1, 2, 3} the least mask
        ways = ring([0, 5, 6]) + ring([1, 2, 3])
        self.greatest(graph(7, ways), [1, 2, 3], [0, 1, 4], [2, 2, 1, 0, 0, 1, 0])
        self.greatest(graph(4, [(0, 3), (1, 2)]), [1, 2], [0, 1], [1, 1, 0, 0])

    def test_the_set_goes_along_the_order(self):
        # they go 1 0 2: by number 0 would come first, and be the whole set
        self.greatest(graph(3, [(0, 1), (0, 2)]), [0, 1], [1, 2], [1, 0, 0])
        # they go 2 0 1 3: from the end it would be {0, 3}
        self.greatest(graph(4, [(2, 0), (0, 1), (1, 3)]), [0, 1], [1, 2], [0, 1, 1, 0])

    def test_colours_go_from_the_end(self):
        # they go 0 1 2 3: from the first on it would be 0 1 0 1
        self.greatest(graph(4, [(0, 1), (1, 2), (2, 3)]), [0, 1], [0, 2], [1, 0, 1, 0])
        # they go 0 2 1: by number, from the greatest, it would be 1 1 0
        self.greatest(graph(3, [(1, 2)]), [1, 2], [0, 1], [0, 1, 0])
        self.greatest(graph(5, [(0, 3), (0, 4), (1, 2)]), [1, 2], [1, 3, 4], [1, 1, 0, 0, 0])

    def test_the_least_colour_that_is_free(self):
        # they go 0 1 2 3 4: 0 is joined to those that have 0 and 2
        self.greatest(graph(5, ring([2, 3, 4]) + [(1, 2), (1, 4), (0, 1), (0, 2)]), [0, 1, 2], [0, 3], [0, 1, 2, 1, 0])
        # they go 0 1 2 3: 0 is joined to the one with 1 alone
        self.greatest(graph(4, [(0, 2), (1, 2), (1, 3), (2, 3)]), [1, 2, 3], [0, 1], [0, 2, 1, 0])

    def test_32_points(self):
        line = graph(32, [(u, u + 1) for u in range(31)])
        self.greatest(line, [0, 1], range(0, 32, 2), [1, 0] * 16)
        star = graph(32, [(31, u) for u in range(31)])
        self.greatest(star, [0, 31], range(31), [1] * 31 + [0])
        two = graph(32, [(u, v) for u in range(32) for v in range(u) if u // 16 == v // 16])
        self.greatest(two, range(16), [0, 16], list(range(15, -1, -1)) * 2)

    def test_32_points_grown(self):
        for seed in range(24):
            g = grown_graph(32, 1 + seed % 12, seed)
            with self.subTest(g=g):
                self.assertEqual(pf_greatest(g), slow_pf_greatest(g, searched_cliques))

    def test_32_points_of_spans(self):
        for seed in range(24):
            g = spans_graph(thrown_spans(32, 4 << seed % 4, 2 + seed % 7, seed), seed)
            with self.subTest(g=g):
                self.assertEqual(pf_greatest(g), slow_pf_greatest(g, searched_cliques))


class Proof(unittest.TestCase):
    def test_as_many_colours_as_the_largest_clique_has_points(self):
        for seed in range(24):
            g = grown_graph(32, 1 + seed % 12, seed)
            near = neighbours(g)
            told = pf_greatest(g)
            colours = told[5:]
            self.assertEqual(sorted(set(colours)), list(range(told[0])))
            for u in range(32):
                for v in near[u]:
                    self.assertNotEqual(colours[u], colours[v])


class AgainstTheSlowReading(unittest.TestCase):
    def test_every_graph_of_up_to_6_points(self):
        for n in range(1, 7):
            for g in graphs_of(n):
                self.assertEqual(pf_greatest(g), slow_pf_greatest(g), g)

    def test_grown_graphs(self):
        for seed in range(300):
            g = grown_graph(7 + seed % 4, 1 + seed % 5, seed)
            self.assertEqual(pf_greatest(g), slow_pf_greatest(g), g)


if __name__ == "__main__":
    unittest.main()
