"""Promise 8: pf_steps."""
import itertools
import unittest

from plaingraphs.graphs import pf_steps
from samples import (can_be_named, full, graph, graphs_of, neighbours, others_of, parted_graph, ring, slow_pf_steps,
                     stepped_graph, thrown_graph)


class Case(unittest.TestCase):
    def all_go(self, g, steps):
        self.assertEqual(pf_steps(g), [1, len(g)] + list(steps) + [0], g)

    def not_all_go(self, g, four):
        self.assertEqual(pf_steps(g), [0, 4] + list(four) + [0], g)


class AllGo(Case):
    def test_one_point_alone(self):
        self.assertEqual(pf_steps([0]), [1, 1, 0, 0])

    def test_two_points(self):
        self.assertEqual(pf_steps([2, 1]), [1, 2, 128, 1, 0])
        self.assertEqual(pf_steps([0, 0]), [1, 2, 0, 1, 0])

    def test_none_joined(self):
        for n in range(1, 33):
            self.all_go([0] * n, range(n))

    def test_all_joined(self):
        for n in range(1, 33):
            self.all_go(full(n), [128 + u for u in range(n - 1)] + [n - 1])

    def test_star(self):
        self.all_go(graph(4, [(0, 1), (0, 2), (0, 3)]), [128, 1, 2, 3])
        self.all_go(graph(4, [(3, 0), (3, 1), (3, 2)]), [131, 0, 1, 2])
        for n in (3, 4, 5, 31, 32):
            for centre in range(n):
                others = [u for u in range(n) if u != centre]
                self.all_go(graph(n, [(centre, u) for u in others]), [128 + centre] + others)

    def test_three_points(self):
        self.all_go(graph(3, [(0, 1), (1, 2)]), [129, 0, 2])
        self.all_go(graph(3, [(0, 1)]), [2, 128, 1])
        self.all_go(graph(3, [(0, 2)]), [1, 128, 2])
        self.all_go(graph(3, [(1, 2)]), [0, 129, 2])

    def test_both_kinds_of_steps(self):
        # 2 is joined to all; then 3 to none; then 0 to all
        self.all_go(graph(4, ring([0, 1, 2]) + [(2, 3)]), [130, 3, 128, 1])
        # 1 is joined to none; then 3 to all; then 0 to none; then 2 to all
        self.all_go(graph(5, [(3, 0), (3, 2), (3, 4), (2, 4)]), [1, 131, 0, 130, 4])
        # all joined but 0 and 1: 2 and 3 go first, and 0 is joined to none then
        self.all_go(others_of(graph(4, [(0, 1)])), [130, 131, 0, 1])
        # all joined but 0 and 3: 1 and 2 go first
        self.all_go(others_of(graph(4, [(0, 3)])), [129, 130, 0, 3])

    def test_always_the_least_of_both_kinds(self):
        # 3 is joined to all, and goes first; then all are joined to none, and the least goes
        self.all_go(graph(5, [(3, u) for u in (0, 1, 2, 4)]), [131, 0, 1, 2, 4])
        # 4 and 5 are joined to none, and go first; then of 0 and 2, joined to all, the lesser; then 1
        self.all_go(graph(6, [(0, 1), (0, 2), (0, 3), (2, 1), (2, 3)]), [4, 5, 128, 130, 1, 3])
        # a lesser point can go only once a greater one is away
        self.all_go(graph(5, [(1, 4), (2, 4), (3, 4), (2, 3)]), [0, 132, 1, 130, 3])

    def test_last_point_is_not_marked(self):
        for n in range(1, 6):
            for g in graphs_of(n):
                told = pf_steps(g)
                if told[0] == 1:
                    self.assertLess(told[1 + n], n)

    def test_32_points(self):
        self.all_go(graph(32, [(30, 31)]), list(range(30)) + [158, 31])
        self.all_go(graph(32, [(0, 31)]), list(range(1, 31)) + [128, 31])
        self.all_go(others_of(graph(32, [(30, 31)])), [128 + u for u in range(30)] + [30, 31])
        self.all_go(others_of(graph(32, [(0, 1)])), [128 + u for u in range(2, 32)] + [0, 1])
        # by turns to none and to all of those with lesser numbers: 31 is joined to all, then 30 to none, and so on
        g = graph(32, [(u, v) for u in range(1, 32, 2) for v in range(u)])
        self.all_go(g, [u + 128 * (u % 2) for u in range(31, 1, -1)] + [128, 1])

    def test_32_points_stepped(self):
        for seed in range(60):
            g = stepped_graph(32, 2 + seed % 20 * 5, seed)
            told = pf_steps(g)
            self.assertEqual(told[0], 1)
            self.assertEqual(told, slow_pf_steps(g), g)


class NotAllGo(Case):
    def test_two_ways_apart(self):
        self.assertEqual(pf_steps(graph(4, [(0, 1), (2, 3)])), [0, 4, 0, 1, 2, 3, 0])
        self.not_all_go(graph(4, [(0, 2), (1, 3)]), range(4))
        self.not_all_go(graph(4, [(0, 3), (1, 2)]), range(4))
        self.not_all_go(graph(7, [(1, 3), (4, 6)]), [1, 3, 4, 6])

    def test_way_of_four(self):
        for row in itertools.permutations(range(4)):
            self.not_all_go(graph(4, [(row[k], row[k + 1]) for k in range(3)]), range(4))
        self.not_all_go(graph(8, [(7, 3), (3, 5), (5, 2)]), [2, 3, 5, 7])

    def test_ring_of_four(self):
        self.not_all_go(graph(4, ring([0, 1, 2, 3])), range(4))
        self.not_all_go(graph(4, ring([0, 2, 1, 3])), range(4))
        self.not_all_go(graph(4, ring([0, 1, 3, 2])), range(4))
        self.not_all_go(graph(7, ring([1, 6, 3, 4])), [1, 3, 4, 6])

    def test_ring_of_five(self):
        for row in itertools.permutations(range(5)):
            self.not_all_go(graph(5, ring(list(row))), range(4))
        self.not_all_go(graph(8, ring([1, 7, 2, 4, 5])), [1, 2, 4, 5])

    def test_points_rise_however_they_are_named(self):
        # a 1, b 4, c 0, d 3: two ways apart
        self.not_all_go(graph(5, [(4, 1), (3, 0)]), [0, 1, 3, 4])
        # the way 3 0 4 1
        self.not_all_go(graph(5, [(3, 0), (0, 4), (4, 1)]), [0, 1, 3, 4])

    def test_some_go_ahead(self):
        # 0 is joined to all, then 1 to none; the ring 2 3 4 5 is left
        self.not_all_go(graph(6, [(0, u) for u in range(1, 6)] + ring([2, 3, 4, 5])), [2, 3, 4, 5])
        # 5 is joined to all, 4 to none then
        self.not_all_go(graph(6, [(5, u) for u in range(5)] + [(0, 1), (1, 2), (2, 3)]), [0, 1, 2, 3])

    def test_several_fours(self):
        # the way 0 1 3 4; 0 1 2 3 and 0 1 2 4 have a point that's joined to none
        self.not_all_go(graph(5, [(0, 1), (1, 3), (3, 4)]), [0, 1, 3, 4])
        # 0 1 2 5 stands ahead of the ring 1 2 3 4
        self.not_all_go(graph(6, ring([1, 2, 3, 4]) + [(0, 5)]), [0, 1, 2, 5])
        # 0 4 and 1 5 stand ahead of 0 4 and 2 3, and of 1 5 and 2 3
        self.not_all_go(graph(6, [(0, 4), (1, 5), (2, 3)]), [0, 1, 4, 5])
        # a clique of three with a point more at each: the way 3 0 1 4 is the first of three
        self.not_all_go(graph(6, ring([0, 1, 2]) + [(0, 3), (1, 4), (2, 5)]), [0, 1, 3, 4])
        # the same by other numbers: the way 0 3 4 1
        self.not_all_go(graph(6, ring([3, 4, 5]) + [(0, 3), (1, 4), (2, 5)]), [0, 1, 3, 4])
        self.not_all_go(graph(8, [(u, v) for u in range(4) for v in range(4, 8)]), [0, 1, 4, 5])
        self.not_all_go(graph(8, ring([0, 1, 2, 3]) + ring([4, 5, 6, 7])), [0, 1, 2, 3])

    def test_fours_that_go(self):
        # 0 1 2 3: a clique of three with a point more, a ring with one way across, a clique, a star
        for ways in (ring([0, 1, 2]) + [(2, 3)], ring([0, 1, 2, 3]) + [(0, 2)],
                     list(itertools.combinations(range(4), 2)), [(0, 1), (0, 2), (0, 3)]):
            self.not_all_go(graph(6, ways + [(4, 5)]), [0, 1, 4, 5])

    def test_greatest_numbers_of_32(self):
        last = range(28, 32)
        joined_to_all = [(u, v) for u in range(28) for v in range(u + 1, 32)]
        for ways in ([(28, 29), (30, 31)], [(28, 31), (29, 30)], ring([28, 29, 30, 31]), ring([28, 30, 29, 31]),
                     [(28, 29), (29, 30), (30, 31)], [(31, 28), (28, 30), (30, 29)]):
            self.not_all_go(graph(32, ways), last)
            self.not_all_go(graph(32, ways + joined_to_all), last)
        half = [(u, v) for u in range(0, 28, 2) for v in range(u + 1, 32)]
        self.not_all_go(graph(32, [(28, 30), (30, 31), (31, 29)] + half), last)
        self.not_all_go(graph(32, ring([27, 28, 29, 30, 31])), [27, 28, 29, 30])

    def test_rings_of_32(self):
        self.not_all_go(graph(32, ring(list(range(32)))), range(4))
        self.not_all_go(others_of(graph(32, ring(list(range(32))))), range(4))

    def test_32_points(self):
        for seed in range(60):
            for g in (thrown_graph(32, 2 + seed % 20 * 5, seed), parted_graph(32, 4 + seed % 25, 50, seed)):
                told = pf_steps(g)
                self.assertEqual(told, slow_pf_steps(g), g)
                self.assertEqual(told[0], 0)

    def test_32_points_that_nearly_all_go(self):
        found = set()
        for seed in range(60):
            g = stepped_graph(32, 20 + seed % 7 * 10, seed)
            u, v = sorted((seed * 7 % 32, (seed * 7 + 1 + seed % 31) % 32))
            changed = list(g)
            changed[u] ^= 1 << v
            changed[v] ^= 1 << u
            told = pf_steps(changed)
            self.assertEqual(told, slow_pf_steps(changed), changed)
            found.add(told[0])
        self.assertEqual(found, {0, 1})


class Proof(unittest.TestCase):
    def test_the_steps_put_the_graph_together_again(self):
        for n in range(1, 7):
            for g in graphs_of(n):
                told = pf_steps(g)
                if told[0] == 1:
                    self.assertEqual(together(told[2:2 + n]), g)
        for seed in range(20):
            g = stepped_graph(32, 5 + seed * 5, seed)
            self.assertEqual(together(pf_steps(g)[2:34]), g)

    def test_1_just_where_there_are_no_such_four(self):
        for n in range(1, 7):
            for g in graphs_of(n):
                near = neighbours(g)
                fours = [four for four in itertools.combinations(range(n), 4) if can_be_named(near, four)]
                told = pf_steps(g)
                self.assertEqual(told[0] == 1, fours == [], g)
                if fours:
                    self.assertEqual(told, [0, 4, *fours[0], 0], g)


def together(steps):
    """The graph of these steps: a marked point is joined to all that go behind it."""
    points = [step % 128 for step in steps]
    return graph(len(steps), [(points[k], v) for k, step in enumerate(steps) if step >= 128 for v in points[k + 1:]])


class AgainstTheSlowReading(unittest.TestCase):
    def test_every_graph_of_up_to_6_points(self):
        for n in range(1, 7):
            for g in graphs_of(n):
                self.assertEqual(pf_steps(g), slow_pf_steps(g), g)

    def test_other_graphs(self):
        for seed in range(150):
            n = 7 + seed % 8
            for g in (thrown_graph(n, 5 + seed % 10 * 10, seed), parted_graph(n, seed % (n + 1), 50, seed),
                      stepped_graph(n, 10 + seed % 9 * 10, seed)):
                self.assertEqual(pf_steps(g), slow_pf_steps(g), g)


if __name__ == "__main__":
    unittest.main()
