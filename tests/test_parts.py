"""Promise 7: pf_parts."""
import itertools
import unittest

from plaingraphs.graphs import pf_parts
from samples import (full, graph, graphs_of, mask_of, neighbours, others_of, parted_graph, ring, shuffled,
                     slow_pf_parts, stepped_graph, thrown_graph, ways_among)


def star(n, centre):
    return graph(n, [(centre, u) for u in range(n) if u != centre])


class Case(unittest.TestCase):
    def parted(self, g, points):
        self.assertEqual(pf_parts(g), [1, 1, mask_of(points), 0], g)

    def not_parted(self, g, points):
        self.assertEqual(pf_parts(g), [0, 1, mask_of(points), 0], g)


class Parted(Case):
    def test_one_point_alone(self):
        self.assertEqual(pf_parts([0]), [1, 1, 1, 0])

    def test_two_points(self):
        self.assertEqual(pf_parts([0, 0]), [1, 1, 1, 0])
        self.assertEqual(pf_parts([2, 1]), [1, 1, 3, 0])

    def test_none_joined(self):
        for n in range(1, 33):
            self.parted([0] * n, [0])

    def test_all_joined(self):
        for n in range(1, 33):
            self.parted(full(n), range(n))
        self.assertEqual(pf_parts(full(32)), [1, 1, 4294967295, 0])

    def test_star(self):
        # the centre has most, the least of the others is the second and has 1: enough there, too few for the third
        for n in (3, 4, 5, 31, 32):
            self.parted(star(n, 0), [0, 1])
            for centre in range(1, n):
                self.parted(star(n, centre), [0, centre])

    def test_star_with_points_alone(self):
        self.parted(graph(6, [(3, 1), (3, 5)]), [1, 3])
        self.parted(graph(6, [(4, 2)]), [2, 4])

    def test_way_of_three_or_four_points(self):
        self.parted(graph(3, [(0, 1), (1, 2)]), [0, 1])
        self.parted(graph(3, [(0, 2), (2, 1)]), [0, 2])
        self.parted(graph(3, [(1, 0), (0, 2)]), [0, 1])
        self.parted(graph(4, [(0, 1), (1, 2), (2, 3)]), [1, 2])
        self.parted(graph(4, [(1, 3), (3, 0), (0, 2)]), [0, 3])

    def test_number_decides_among_those_with_equally_many(self):
        # all joined but two: these have 2, and the lesser of them stands in the third place
        for u, v in itertools.combinations(range(4), 2):
            self.parted(others_of(graph(4, [(u, v)])), set(range(4)) - {v})
        # 4 and 5 have 6 each; all others have 2, and the least of them stands in the third place
        ways = [(4, 5)] + [(u, v) for u in (4, 5) for v in (0, 1, 2, 3, 6)]
        self.parted(graph(7, ways), [0, 4, 5])
        # 0 and 1 have 6 each; of all others, with 2, it's 2
        ways = [(0, 1)] + [(u, v) for u in (0, 1) for v in range(2, 7)]
        self.parted(graph(7, ways), [0, 1, 2])

    def test_number_decides_among_all_of_the_part(self):
        # a clique of three with a point more at each: 3 3 3 1 1 1
        self.parted(graph(6, ring([0, 1, 2]) + [(0, 3), (1, 4), (2, 5)]), [0, 1, 2])
        self.parted(graph(6, ring([3, 4, 5]) + [(0, 3), (1, 4), (2, 5)]), [3, 4, 5])
        # 1 2 4 have 3 each, 0 has 2, 5 has 1, 3 none: 0 has too few for the fourth place
        self.parted(graph(6, ring([1, 2, 4]) + [(0, 1), (0, 2), (4, 5)]), [1, 2, 4])

    def test_last_place_has_just_enough(self):
        # 1 2 3 have 4, 3, 3; in the fourth place 0 has 3, just enough; in the fifth 4 has 1
        self.parted(graph(5, list(itertools.combinations(range(4), 2)) + [(1, 4)]), [0, 1, 2, 3])

    def test_32_points(self):
        self.parted(graph(32, [(30, 31)]), [30, 31])
        self.parted(others_of(graph(32, [(30, 31)])), range(31))
        self.parted(others_of(graph(32, [(0, 1)])), set(range(32)) - {1})
        self.parted(graph(32, itertools.combinations(range(16, 32), 2)), range(16, 32))
        half = list(itertools.combinations(range(16, 32), 2)) + [(u, u + 16) for u in range(16)]
        self.parted(graph(32, half), range(16, 32))

    def test_32_points_in_two_parts(self):
        for seed in range(40):
            for g in (parted_graph(32, seed % 33, 10 + seed % 9 * 10, seed),
                      stepped_graph(32, 5 + seed % 10 * 10, seed)):
                told = pf_parts(g)
                self.assertEqual(told[0], 1)
                self.assertEqual(told, slow_pf_parts(g), g)


class NotParted(Case):
    def test_two_ways_apart(self):
        self.not_parted(graph(4, [(0, 1), (2, 3)]), range(4))
        self.not_parted(graph(4, [(0, 2), (1, 3)]), range(4))
        self.not_parted(graph(4, [(0, 3), (1, 2)]), range(4))
        self.not_parted(graph(7, [(1, 3), (4, 6)]), [1, 3, 4, 6])

    def test_ring_of_four(self):
        self.assertEqual(pf_parts([10, 5, 10, 5]), [0, 1, 15, 0])
        self.not_parted(graph(4, ring([0, 2, 1, 3])), range(4))
        self.not_parted(graph(4, ring([0, 1, 3, 2])), range(4))
        self.not_parted(graph(7, ring([1, 6, 3, 4])), [1, 3, 4, 6])

    def test_a_clique_but_others_are_joined(self):
        # 2 2 2 1 1: the first three are a clique, 3 and 4 are joined
        self.not_parted(graph(5, ring([0, 1, 2]) + [(3, 4)]), [0, 1, 3, 4])

    def test_no_clique_though_no_others_are_joined(self):
        # 3 3 2 2 2: of the first three, 0 and 1 aren't joined
        self.not_parted(graph(5, [(u, v) for u in (0, 1) for v in (2, 3, 4)]), range(4))

    def test_both_kinds(self):
        # 0 1 2 3 and 0 1 2 4 have two ways with a common point; 0 5 and 1 2 have none
        self.not_parted(graph(6, ring([1, 2, 3, 4]) + [(0, 5)]), [0, 1, 2, 5])
        # the ring is the first
        self.not_parted(graph(6, ring([0, 1, 2, 3]) + [(4, 5)]), [0, 1, 2, 3])
        # 0 1 and 3 4 stand ahead of the ring 4 5 6 7
        self.not_parted(graph(8, [(0, 1), (3, 4)] + ring([4, 5, 6, 7])), [0, 1, 3, 4])
        # the ring 0 1 2 4 stands ahead of the two ways 0 1 and 3 5
        self.not_parted(graph(6, ring([0, 1, 2, 4]) + [(3, 5)]), [0, 1, 2, 4])

    def test_first_in_order_is_not_the_least_mask(self):
        # 0 1 2 5 stands ahead of 1 2 3 4, though its mask is greater
        self.assertEqual(pf_parts(graph(6, ring([1, 2, 3, 4]) + [(0, 5)])), [0, 1, 39, 0])
        # 0 4 and 1 5 stand ahead of 0 4 and 2 3, and of 1 5 and 2 3
        self.not_parted(graph(6, [(0, 4), (1, 5), (2, 3)]), [0, 1, 4, 5])
        # 0 6 and 1 2 stand ahead of 0 6 and 3 4, and of 1 2 and 3 4
        self.not_parted(graph(7, [(0, 6), (1, 2), (3, 4)]), [0, 1, 2, 6])

    def test_several_fours(self):
        self.not_parted(graph(8, ring([0, 1, 2, 3]) + ring([4, 5, 6, 7])), [0, 1, 2, 3])
        # two rows of four, all joined across: 0 1 with 4 5 is the first ring
        self.not_parted(graph(8, [(u, v) for u in range(4) for v in range(4, 8)]), [0, 1, 4, 5])
        # a way of five points: 0 1 and 3 4
        self.not_parted(graph(5, [(u, u + 1) for u in range(4)]), [0, 1, 3, 4])
        # a ring of six: 0 1 and 3 4 is the first of three
        self.not_parted(graph(6, ring(list(range(6)))), [0, 1, 3, 4])

    def test_three_ways_or_more_that_are_no_ring(self):
        # 0 1 2 3 is a clique of three with a point more: two ways without a common point, and two more, but no ring
        self.not_parted(graph(6, ring([0, 1, 2]) + [(2, 3), (4, 5)]), [0, 1, 4, 5])
        # 0 1 2 3 is a way of four points
        self.not_parted(graph(6, [(0, 1), (1, 2), (2, 3), (4, 5)]), [0, 1, 4, 5])
        # 0 1 2 3 is a ring with one way across
        self.not_parted(graph(6, ring([0, 1, 2, 3]) + [(0, 2), (4, 5)]), [0, 1, 4, 5])
        # 0 1 2 3 is a clique
        self.not_parted(graph(6, list(itertools.combinations(range(4), 2)) + [(4, 5)]), [0, 1, 4, 5])
        # 0 1 2 3 is a star
        self.not_parted(graph(6, [(0, 1), (0, 2), (0, 3), (4, 5)]), [0, 1, 4, 5])

    def test_greatest_numbers_of_32(self):
        last = range(28, 32)
        joined_to_all = [(u, v) for u in range(28) for v in range(u + 1, 32)]
        for ways in ([(28, 29), (30, 31)], [(28, 31), (29, 30)], ring([28, 29, 30, 31]), ring([28, 30, 29, 31])):
            self.not_parted(graph(32, ways), last)
            self.not_parted(graph(32, ways + joined_to_all), last)
        # 0 to 13 are a clique, and joined to all; 14 to 27 are joined to these alone
        half = [(u, v) for u in range(14) for v in range(u + 1, 32)]
        self.not_parted(graph(32, [(28, 30), (29, 31)] + half), last)
        self.not_parted(graph(32, ring([28, 29, 30, 31]) + half), last)

    def test_rings_of_32(self):
        self.not_parted(graph(32, ring(list(range(32)))), [0, 1, 3, 4])
        # all joined but those side by side in the ring: the ring 0 3 1 4
        self.not_parted(others_of(graph(32, ring(list(range(32))))), [0, 1, 3, 4])

    def test_32_points(self):
        for seed in range(40):
            g = thrown_graph(32, 2 + seed % 20 * 5, seed)
            told = pf_parts(g)
            self.assertEqual(told, slow_pf_parts(g), g)
            self.assertEqual(told[0], 0)

    def test_32_points_that_are_nearly_parted(self):
        found = set()
        for seed in range(60):
            g = parted_graph(32, 3 + seed % 26, 20 + seed % 7 * 10, seed)
            u, v = sorted((seed * 7 % 32, (seed * 7 + 1 + seed % 31) % 32))
            changed = list(g)
            changed[u] ^= 1 << v
            changed[v] ^= 1 << u
            told = pf_parts(changed)
            self.assertEqual(told, slow_pf_parts(changed), changed)
            found.add(told[0])
        self.assertEqual(found, {0, 1})


class Circle(Case):
    def test_ring_of_five(self):
        self.assertEqual(pf_parts(graph(5, ring([0, 1, 2, 3, 4]))), [0, 1, 31, 0])
        for row in itertools.permutations(range(5)):
            self.not_parted(graph(5, ring(list(row))), range(5))

    def test_points_alone_beside_it(self):
        for five in itertools.combinations(range(8), 5):
            self.not_parted(graph(8, ring(list(five))), five)

    def test_points_joined_to_all_beside_it(self):
        for five in itertools.combinations(range(7), 5):
            self.not_parted(graph(7, ring(list(five)) + [(u, v) for u in range(7) if u not in five for v in range(7)
                                                         if v != u]), five)

    def test_a_clique_and_points_apart_beside_it(self):
        # 0 and 6 are joined to one another and to the ring, 3 to 6 alone, 8 to both, 9 to none
        ways = [(0, 6), (3, 6), (8, 0), (8, 6)] + [(u, v) for u in (0, 6) for v in (1, 2, 4, 5, 7)]
        self.not_parted(graph(10, ways + ring([1, 4, 2, 7, 5])), [1, 2, 4, 5, 7])

    def test_four_points_are_asked_first(self):
        # 5 6 is apart from the ring 0 to 4
        self.not_parted(graph(7, ring([0, 1, 2, 3, 4]) + [(5, 6)]), [0, 1, 5, 6])
        # the ring 0 to 4, and 6 9, 7 8, all joined to the ring: 0 6 2 7 make a ring of four
        ways = ring([0, 1, 2, 3, 4]) + [(u, v) for u in range(5) for v in (6, 7, 8, 9)] + [(6, 9), (7, 8)]
        self.not_parted(graph(10, ways), [0, 2, 6, 7])

    def test_32_points(self):
        self.not_parted(graph(32, ring([27, 28, 29, 30, 31])), range(27, 32))
        self.not_parted(graph(32, ring([27, 29, 31, 28, 30])), range(27, 32))
        self.not_parted(graph(32, ring([0, 8, 16, 24, 31])), [0, 8, 16, 24, 31])
        clique = [(u, v) for u in range(14) for v in range(u + 1, 14)]
        to_ring = [(u, v) for u in range(14) for v in range(27, 32)]
        to_others = [(u, v) for u in range(14) for v in range(14, 27) if u * v % 3]
        self.not_parted(graph(32, clique + to_ring + to_others + ring([27, 28, 29, 30, 31])), range(27, 32))
        joined_to_all = [(u, v) for u in range(27) for v in range(u + 1, 32)]
        self.not_parted(graph(32, joined_to_all + ring([27, 28, 29, 30, 31])), range(27, 32))

    def test_32_points_shuffled(self):
        for seed in range(6):
            clique = [(u, v) for u in range(10) for v in range(u + 1, 15)]
            ways = clique + [(u, v) for u in range(10) for v in range(15, 32) if (u * v + seed) % 3]
            g = shuffled(graph(32, ways + ring([10, 11, 12, 13, 14])), seed)
            told = pf_parts(g)
            self.assertEqual(bin(told[2]).count("1"), 5)
            self.assertEqual(told, slow_pf_parts(g), g)


class Proof(unittest.TestCase):
    def test_1_just_where_there_are_two_such_parts(self):
        for n in range(1, 6):
            for g in graphs_of(n):
                can_be = any(len(ways_among(g, part)) == size * (size - 1) // 2
                             and not ways_among(g, [u for u in range(n) if u not in part])
                             for size in range(n + 1) for part in itertools.combinations(range(n), size))
                self.assertEqual(pf_parts(g)[0] == 1, can_be, g)

    def test_the_part_is_a_largest_clique(self):
        for n in range(1, 6):
            for g in graphs_of(n):
                told = pf_parts(g)
                if told[0] == 1:
                    size = bin(told[2]).count("1")
                    for more in itertools.combinations(range(n), size + 1):
                        self.assertLess(len(ways_among(g, more)), (size + 1) * size // 2)

    def test_five_are_all_joined_to_two(self):
        for g in graphs_of(6):
            told = pf_parts(g)
            five = {u for u in range(6) if told[2] >> u & 1}
            if told[0] == 0 and len(five) == 5:
                near = neighbours(g)
                self.assertEqual([len(near[u] & five) for u in five], [2] * 5)


class AgainstTheSlowReading(unittest.TestCase):
    def test_every_graph_of_up_to_6_points(self):
        for n in range(1, 7):
            for g in graphs_of(n):
                self.assertEqual(pf_parts(g), slow_pf_parts(g), g)

    def test_other_graphs(self):
        for seed in range(150):
            n = 7 + seed % 8
            for g in (thrown_graph(n, 5 + seed % 10 * 10, seed), parted_graph(n, seed % (n + 1), 50, seed),
                      stepped_graph(n, 10 + seed % 9 * 10, seed)):
                self.assertEqual(pf_parts(g), slow_pf_parts(g), g)


if __name__ == "__main__":
    unittest.main()
