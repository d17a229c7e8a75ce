"""Promise 1: pf_order."""
import unittest

from plaingraphs.graphs import pf_order
from samples import (full, graph, graphs_of, grown_graph, ring, searched_circle, slow_circle, slow_pf_order,
                     thrown_graph)


class AllGo(unittest.TestCase):
    def goes(self, g, order):
        self.assertEqual(pf_order(g), [0, len(order)] + order + [0])

    def test_one_point_alone(self):
        self.goes([0], [0])

    def test_none_joined(self):
        self.goes([0, 0], [0, 1])
        self.goes([0, 0, 0, 0], [0, 1, 2, 3])
        self.goes([0] * 32, list(range(32)))

    def test_all_joined(self):
        self.goes([2, 1], [0, 1])
        self.goes(full(3), [0, 1, 2])
        self.goes(full(4), [0, 1, 2, 3])
        self.goes(full(32), list(range(32)))

    def test_trees(self):
        self.goes(graph(4, [(0, 1), (0, 2), (0, 3)]), [1, 2, 0, 3])
        self.goes(graph(4, [(3, 0), (3, 1), (3, 2)]), [0, 1, 2, 3])
        self.goes(graph(4, [(2, 0), (0, 1), (1, 3)]), [2, 0, 1, 3])
        self.goes(graph(7, [(0, 1), (0, 2), (1, 3), (1, 4), (2, 5), (2, 6)]), [3, 4, 1, 0, 5, 2, 6])

    def test_a_lesser_point_goes_as_soon_as_it_can(self):
        self.goes(graph(5, [(0, 3), (0, 4), (1, 2)]), [1, 2, 3, 0, 4])

    def test_cliques_with_a_common_part(self):
        self.goes(graph(4, [(0, 1), (0, 2), (1, 2), (1, 3), (2, 3)]), [0, 1, 2, 3])
        self.goes(graph(5, [(0, 1), (0, 2), (1, 2), (0, 3), (0, 4), (3, 4)]), [1, 2, 0, 3, 4])
        # a ring of four with one of its two ways across is no circle
        self.goes(graph(4, ring([0, 1, 2, 3]) + [(0, 2)]), [1, 0, 2, 3])

    def test_ring_of_three_is_no_circle(self):
        self.goes(graph(5, ring([0, 2, 4])), [0, 1, 2, 3, 4])

    def test_a_line_of_32(self):
        self.goes(graph(32, [(u, u + 1) for u in range(31)]), list(range(32)))
        # from 11 on over 31 and 0 to 10
        self.goes(graph(32, [(u, (u + 1) % 32) for u in range(32) if u != 10]),
                  list(range(10, -1, -1)) + list(range(11, 32)))

    def test_32_points(self):
        for seed in range(12):
            g = grown_graph(32, 1 + seed, seed)
            with self.subTest(g=g):
                told = pf_order(g)
                self.assertEqual(told[0], 0)
                self.assertEqual(told, slow_pf_order(g))


class NotAllGo(unittest.TestCase):
    def circle(self, g, row):
        self.assertEqual(pf_order(g), [len(row), len(row)] + row + [0])

    def test_one_circle(self):
        self.circle([10, 5, 10, 5], [0, 1, 2, 3])
        for n in range(4, 33):
            self.circle(graph(n, ring(list(range(n)))), list(range(n)))

    def test_from_the_least_towards_the_lesser_neighbour(self):
        self.circle(graph(4, ring([0, 2, 1, 3])), [0, 2, 1, 3])
        self.circle(graph(4, ring([3, 1, 2, 0])), [0, 2, 1, 3])
        self.circle(graph(4, ring([2, 3, 0, 1])), [0, 1, 2, 3])
        self.circle(graph(5, ring([0, 4, 1, 3, 2])), [0, 2, 3, 1, 4])
        self.circle(graph(6, ring([5, 0, 4, 1, 3, 2])), [0, 4, 1, 3, 2, 5])

    def test_the_shortest(self):
        self.circle(graph(9, ring([0, 1, 2, 3, 4]) + ring([5, 6, 7, 8])), [5, 6, 7, 8])
        self.circle(graph(13, ring([0, 1, 2, 3, 4, 5, 6]) + ring([12, 8, 11, 7, 10, 9])), [7, 10, 9, 12, 8, 11])
        # a way across that leaves five on one side and four on the other
        self.circle(graph(7, ring([0, 1, 2, 3, 4, 5, 6]) + [(0, 4)]), [0, 4, 5, 6])

    def test_the_first_in_order_of_several(self):
        self.circle(graph(5, [(0, 2), (0, 3), (0, 4), (1, 2), (1, 3), (1, 4)]), [0, 2, 1, 3])
        self.circle(graph(8, ring([4, 5, 6, 7]) + ring([0, 1, 2, 3])), [0, 1, 2, 3])
        self.circle(graph(8, ring([0, 6, 4, 7]) + ring([1, 2, 3, 5])), [0, 6, 4, 7])
        # the third place differs ahead of the last one
        self.circle(graph(6, [(0, 1), (0, 2), (0, 3), (1, 4), (1, 5), (4, 3), (5, 2)]), [0, 1, 4, 3])
        # of two ways between the same neighbours the first one
        self.circle(graph(7, ring([0, 1, 6, 3, 2]) + [(1, 4), (4, 5), (5, 2)]), [0, 1, 4, 5, 2])
        self.circle(graph(7, ring([0, 1, 4, 6, 2]) + [(4, 5), (5, 2), (5, 6)]), [0, 1, 4, 5, 2])

    def test_points_go_first_and_a_circle_is_left(self):
        self.circle(graph(5, [(0, 1)] + ring([1, 2, 3, 4])), [1, 2, 3, 4])
        self.circle(graph(8, [(0, 1), (1, 2), (2, 3), (0, 2)] + ring([3, 6, 4, 7, 5])), [3, 5, 7, 4, 6])
        self.circle(graph(6, ring([0, 1, 2, 3]) + [(4, 0), (4, 1), (5, 4)]), [0, 1, 2, 3])

    def test_points_joined_to_the_whole_ring(self):
        self.circle(graph(6, ring([1, 2, 3, 4, 5]) + [(0, u) for u in range(1, 6)]), [1, 2, 3, 4, 5])
        self.circle(graph(6, ring([0, 1, 2, 3]) + [(4, u) for u in range(4)] + [(5, 4)]), [0, 1, 2, 3])

    def test_32_points(self):
        grid = [(u, u + 1) for u in range(32) if u % 8 != 7] + [(u, u + 8) for u in range(24)]
        self.circle(graph(32, grid), [0, 1, 9, 8])
        halves = [(u, v) for u in range(16) for v in range(16, 32)]
        self.circle(graph(32, halves), [0, 16, 1, 17])
        self.circle(graph(32, [(30, 31)] + ring(list(range(31, -1, -1))[1:])), list(range(31)))
        self.circle(graph(32, ring([28, 29, 31, 30]) + [(u, u + 1) for u in range(28)]), [28, 29, 31, 30])

    def test_32_points_without_short_circles(self):
        jumps = [-13, -9, 7, -7, 9, 13]
        ways = ring(list(range(30))) + [(u, (u + jumps[u % 6]) % 30) for u in range(30)]
        g = graph(32, ways + [(30, 0), (31, 30)])
        self.assertEqual(pf_order(g)[0], 8)
        self.assertEqual(pf_order(g), slow_pf_order(g, searched_circle))

    def test_32_points_thrown(self):
        for percent in (4, 6, 8, 12, 20, 35, 50, 65, 80, 90, 97):
            for seed in range(3):
                g = thrown_graph(32, percent, 100 * percent + seed)
                with self.subTest(g=g):
                    self.assertEqual(pf_order(g), slow_pf_order(g, searched_circle))


class AgainstTheSlowReading(unittest.TestCase):
    def test_every_graph_of_up_to_5_points(self):
        for n in range(1, 6):
            for g in graphs_of(n):
                self.assertEqual(pf_order(g), slow_pf_order(g), g)

    def test_every_graph_of_6_points(self):
        for g in graphs_of(6):
            self.assertEqual(pf_order(g), slow_pf_order(g, searched_circle), g)

    def test_thrown_graphs(self):
        for seed in range(200):
            g = thrown_graph(7 + seed % 2, 20 + seed % 7 * 10, seed)
            self.assertEqual(pf_order(g), slow_pf_order(g, searched_circle), g)

    def test_the_two_slow_readings_agree(self):
        for seed in range(40):
            g = thrown_graph(7, 35 + seed, seed)
            self.assertEqual(slow_circle(g), searched_circle(g), g)


if __name__ == "__main__":
    unittest.main()
