"""Promise 4: pf_spans."""
import unittest

from plaingraphs.graphs import pf_cliques, pf_spans
from samples import (full, graph, graphs_of, grown_graph, ring, searched_cliques, searched_line, shuffled, slow_line,
                     slow_pf_spans, spans_graph, thrown_graph, thrown_spans)

NET = ring([0, 1, 2]) + [(0, 3), (1, 4), (2, 5)]
SUN = ring([0, 1, 2]) + [(0, 3), (1, 3), (1, 4), (2, 4), (2, 5), (0, 5)]
SPIDER = [(0, 1), (0, 2), (0, 3), (1, 4), (2, 5), (3, 6)]


def renamed(ways, names):
    return [(names[u], names[v]) for u, v in ways]


def lines(lengths):
    """Ways of lines side by side, each of so many points."""
    ways = []
    start = 0
    for length in lengths:
        ways += [(u, u + 1) for u in range(start, start + length - 1)]
        start += length
    return ways


class NotAllGo(unittest.TestCase):
    def test_2_alone(self):
        for n in range(4, 33):
            self.assertEqual(pf_spans(graph(n, ring(list(range(n))))), [2, 0, 0])
        self.assertEqual(pf_spans(graph(5, [(0, 1)] + ring([1, 2, 3, 4]))), [2, 0, 0])
        self.assertEqual(pf_spans(thrown_graph(32, 50, 1)), [2, 0, 0])

    def test_2_where_there_are_three_as_for_3_too(self):
        self.assertEqual(pf_spans(graph(10, NET + ring([6, 7, 8, 9]))), [2, 0, 0])
        self.assertEqual(pf_spans(graph(6, ring(list(range(6))))), [2, 0, 0])


class Spans(unittest.TestCase):
    def spans(self, g, spans):
        self.assertEqual(pf_spans(g), [1, 2 * len(g)] + [place for span in spans for place in span] + [0])

    def test_one_point_alone(self):
        self.assertEqual(pf_spans([0]), [1, 2, 0, 0, 0])

    def test_none_joined(self):
        self.spans([0, 0], [(0, 0), (1, 1)])
        self.spans([0] * 32, [(u, u) for u in range(32)])

    def test_all_joined(self):
        self.spans([2, 1], [(0, 0)] * 2)
        self.spans(full(4), [(0, 0)] * 4)
        self.spans(full(32), [(0, 0)] * 32)

    def test_lines(self):
        self.spans(graph(3, [(0, 1), (1, 2)]), [(0, 0), (0, 1), (1, 1)])
        self.spans(graph(32, lines([32])), [(0, 0)] + [(u - 1, u) for u in range(1, 31)] + [(30, 30)])

    def test_a_point_in_all_cliques(self):
        self.spans(graph(4, [(0, 1), (0, 2), (0, 3)]), [(0, 2), (0, 0), (1, 1), (2, 2)])
        self.spans(graph(32, [(31, u) for u in range(31)]), [(u, u) for u in range(31)] + [(0, 30)])

    def test_not_the_cliques_own_order(self):
        # {0, 1}, {0, 2}, {1, 3}: the first of them has to stand amid the others; 1 0 2 comes ahead of 2 0 1
        self.spans(graph(4, [(2, 0), (0, 1), (1, 3)]), [(0, 1), (1, 2), (0, 0), (2, 2)])
        # {0, 1}, {1, 2}, {0, 3}: in the order 1 0 2, too
        self.spans(graph(4, [(3, 0), (0, 1), (1, 2)]), [(1, 2), (0, 1), (0, 0), (2, 2)])
        # 2 3 0 1 4, a line: {0, 1}, {0, 3}, {2, 3}, {1, 4}, in the order 2 1 0 3
        self.spans(graph(5, [(2, 3), (3, 0), (0, 1), (1, 4)]), [(1, 2), (2, 3), (0, 0), (0, 1), (3, 3)])

    def test_the_first_of_an_order_and_its_turned_one(self):
        # 4 2 0 1 3: {0, 1}, {0, 2}, {1, 3}, {2, 4}: 2 0 1 3 comes ahead of 3 1 0 2
        self.spans(graph(5, [(4, 2), (2, 0), (0, 1), (1, 3)]), [(1, 2), (0, 1), (2, 3), (0, 0), (3, 3)])

    def test_several_parts(self):
        # {0, 1}, {2}, {3}, {1, 4}: what 1 has stays together, in the order 0 3 1 2
        self.spans(graph(5, [(0, 1), (1, 4)]), [(0, 0), (0, 1), (2, 2), (3, 3), (1, 1)])
        # the part {0, 1}, {0, 2}, {1, 3} can't begin with its least place, 0; so 1 0 2, and {4}
        self.spans(graph(5, [(2, 0), (0, 1), (1, 3)]), [(0, 1), (1, 2), (0, 0), (2, 2), (3, 3)])
        # {0, 1}, {1, 2}, {3}, {4}, {0, 5}: in the order 1 0 4 2 3
        self.spans(graph(6, [(5, 0), (0, 1), (1, 2)]), [(1, 2), (0, 1), (0, 0), (3, 3), (4, 4), (2, 2)])

    def test_the_least_first_place_is_in_another_part(self):
        # {3, 4} lies in the middle of its line, 6 3 4 5; {0}, {1}, {2} come first
        self.spans(graph(7, [(6, 3), (3, 4), (4, 5)]), [(0, 0), (1, 1), (2, 2), (4, 5), (3, 4), (3, 3), (5, 5)])

    def test_a_place_that_fails_late(self):
        # 0 with the ends 1, 2, 3 and two longer legs, 4 6 and 5 7: one of these legs has to stand first
        self.spans(graph(8, [(0, u) for u in range(1, 6)] + [(4, 6), (5, 7)]),
                   [(1, 5), (2, 2), (3, 3), (4, 4), (0, 1), (5, 6), (0, 0), (6, 6)])

    def test_many_places_that_fail_late(self):
        g = graph(32, [(0, u) for u in range(1, 30)] + [(28, 30), (29, 31)])
        self.spans(g, [(1, 29)] + [(u + 1, u + 1) for u in range(1, 28)] + [(0, 1), (29, 30), (0, 0), (30, 30)])

    def test_parts_within_parts(self):
        # 0 is joined to all of the others, 1 to 2, 3, 4; beside these there are 5 6 7, a line, and 8
        g = graph(9, [(0, u) for u in range(1, 9)] + [(1, 2), (1, 3), (1, 4), (5, 6), (6, 7)])
        self.spans(g, [(0, 5), (0, 2), (0, 0), (1, 1), (2, 2), (3, 3), (3, 4), (4, 4), (5, 5)])

    def test_lines_side_by_side_of_32_points(self):
        for lengths in ([32], [16, 16], [8] * 4, [4] * 8, [2] * 16, [5] * 6 + [2], [10, 1, 10, 1, 10]):
            for seed in range(2):
                g = shuffled(graph(32, lines(lengths)), seed)
                with self.subTest(lengths=lengths, g=g):
                    told = pf_spans(g)
                    self.assertEqual(told[0], 1)
                    self.assertEqual(told, slow_pf_spans(g, searched_cliques, searched_line))

    def test_32_points_of_spans(self):
        for seed in range(24):
            g = spans_graph(thrown_spans(32, 4 << seed % 4, 2 + seed % 7, seed), seed)
            with self.subTest(g=g):
                told = pf_spans(g)
                self.assertEqual(told[0], 1)
                self.assertEqual(told, slow_pf_spans(g, searched_cliques, searched_line))


class Three(unittest.TestCase):
    def three(self, g, points):
        self.assertEqual(pf_spans(g), [3, 3] + points + [0])

    def test_six_points(self):
        self.three(graph(6, NET), [3, 4, 5])
        self.three(graph(6, SUN), [3, 4, 5])
        self.three(graph(6, renamed(NET, [5, 3, 1, 4, 0, 2])), [0, 2, 4])
        self.three(graph(6, renamed(SUN, [0, 5, 3, 2, 1, 4])), [1, 2, 4])

    def test_seven_points(self):
        self.three(graph(7, SPIDER), [4, 5, 6])
        self.three(graph(7, renamed(SPIDER, [6, 4, 5, 1, 3, 0, 2])), [0, 2, 3])

    def test_a_point_joined_to_all_of_them_is_in_no_way(self):
        # the ways go by 4, 5 and 6
        self.three(graph(7, renamed(NET, [4, 5, 6, 1, 2, 3]) + [(0, u) for u in range(1, 7)]), [1, 2, 3])

    def test_the_first_of_several(self):
        # each leg of three can end in either of its two outer points
        legs = SPIDER + [(4, 7), (5, 8), (6, 9)]
        self.three(graph(10, legs), [4, 5, 6])
        self.three(graph(10, renamed(legs, [9, 8, 7, 6, 5, 4, 3, 2, 1, 0])), [0, 1, 2])
        self.three(graph(10, renamed(legs, [3, 0, 1, 2, 9, 5, 6, 4, 8, 7])), [4, 5, 6])
        # the first place decides ahead of the others
        self.three(graph(12, renamed(NET, [6, 7, 8, 0, 10, 11]) + renamed(NET, [4, 5, 9, 1, 2, 3])), [0, 10, 11])
        # then the second, then the third
        self.three(graph(8, renamed(NET, [5, 6, 7, 0, 2, 4]) + [(6, 3), (6, 1)]), [0, 1, 4])
        self.three(graph(8, renamed(NET, [5, 6, 7, 0, 2, 4]) + [(7, 3)]), [0, 2, 3])

    def test_other_parts_are_nothing_to_it(self):
        self.three(graph(10, renamed(NET, [9, 8, 7, 6, 5, 4]) + [(0, 1), (1, 2)]), [4, 5, 6])
        self.three(graph(13, renamed(SPIDER, [9, 8, 7, 6, 12, 5, 10]) + [(0, 1), (2, 3)]), [5, 10, 12])

    def test_few_cliques_of_32_points(self):
        inner = [(u, v) for u in range(20) for v in range(u)]
        outer = [(u, v) for u in range(20, 32) for v in range(20, u) if u // 4 == v // 4]
        between = [(u, 6 * (u // 4 - 5) + k) for u in range(20, 32) for k in range(6)]
        g = graph(32, inner + outer + between)
        self.assertEqual(pf_cliques(g)[0], 4)
        self.three(g, [20, 24, 28])

    def test_many_cliques_of_32_points(self):
        # a spider whose middle has ends of its own besides
        g = graph(32, SPIDER + [(0, u) for u in range(7, 32)])
        self.assertEqual(pf_cliques(g)[0], 31)
        self.three(g, [4, 5, 6])
        self.three(graph(32, renamed(SPIDER, [25, 26, 27, 28, 29, 30, 31])), [29, 30, 31])
        # each point has two below it: from 15 to 17 it goes by 7 3 8, from 0 to either by 1 3
        self.three(graph(32, [(u, (u - 1) // 2) for u in range(1, 32)]), [0, 15, 17])

    def test_legs_of_ten(self):
        legs = [(0, 1), (0, 11), (0, 21)] + [(u, u + 1) for u in range(1, 31) if u % 10]
        self.three(graph(32, legs), [2, 12, 22])

    def test_32_points_grown(self):
        found = []
        for seed in range(30):
            g = grown_graph(32, 1 + seed % 12, seed)
            with self.subTest(g=g):
                told = pf_spans(g)
                found.append(told[0])
                self.assertEqual(told, slow_pf_spans(g, searched_cliques, searched_line))
        self.assertGreater(found.count(3), 5)


class AgainstTheSlowReading(unittest.TestCase):
    def test_every_graph_of_up_to_6_points(self):
        for n in range(1, 7):
            for g in graphs_of(n):
                self.assertEqual(pf_spans(g), slow_pf_spans(g), g)

    def test_spans(self):
        for seed in range(200):
            g = spans_graph(thrown_spans(7 + seed % 2, 3 + seed % 9, 1 + seed % 5, seed), seed)
            self.assertEqual(pf_spans(g), slow_pf_spans(g), g)

    def test_nets_suns_and_spiders_with_more_points(self):
        for seed in range(60):
            ways = (NET, SUN, SPIDER)[seed % 3] + [(7, seed % 7), (8, seed % 5)]
            g = shuffled(graph(9, ways), seed)
            told = pf_spans(g)
            self.assertEqual(told[0], 3)
            self.assertEqual(told, slow_pf_spans(g, line=searched_line), g)

    def test_the_two_slow_readings_agree(self):
        for seed in range(60):
            for g in (spans_graph(thrown_spans(7, 3 + seed % 9, 1 + seed % 5, seed), seed),
                      shuffled(graph(7, (NET, SUN, SPIDER)[seed % 3]), seed)):
                cliques = searched_cliques(g)
                self.assertEqual(searched_line(g, cliques), slow_line(g, cliques), g)


if __name__ == "__main__":
    unittest.main()
