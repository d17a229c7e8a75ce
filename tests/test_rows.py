"""Promise 6: pf_rows."""
import itertools
import unittest

from plaingraphs.graphs import pf_rows, pf_turns
from samples import (full, graph, graph_of_rows, graphs_of, others_of, ring, shuffled, slow_pf_rows, spans_graph,
                     thrown_graph, thrown_row, thrown_spans)

LEGS = [(0, 1), (0, 2), (0, 3), (1, 4), (2, 5), (3, 6)]


class Zero(unittest.TestCase):
    def test_0_alone_where_both_fail(self):
        for n in range(5, 33, 2):
            g = graph(n, ring(list(range(n))))
            self.assertEqual(pf_turns(others_of(g))[0], 0)
            self.assertEqual(pf_rows(g), [0, 0, 0])
            self.assertEqual(pf_rows(others_of(g)), [0, 0, 0])
        self.assertEqual(pf_rows(thrown_graph(32, 50, 1)), [0, 0, 0])

    def test_0_alone_where_the_others_can_be_turned(self):
        for g in (graph(6, ring(list(range(6)))), graph(32, ring(list(range(32)))), graph(7, LEGS)):
            self.assertEqual(pf_turns(g)[0], 1)
            self.assertEqual(pf_turns(others_of(g))[0], 0)
            self.assertEqual(pf_rows(others_of(g)), [0, 0, 0])

    def test_0_where_not_the_first_round_fails(self):
        self.assertEqual(pf_rows(graph(7, [(0, 1)] + ring([2, 3, 4, 5, 6]))), [0, 0, 0])
        self.assertEqual(pf_rows(graph(6, ring([1, 2, 3, 4, 5]) + [(0, u) for u in range(1, 6)])), [0, 0, 0])

    def test_others_of_32_points_in_three_rows(self):
        found = []
        for seed in range(12):
            g = others_of(graph_of_rows([thrown_row(32, 3 * seed + k) for k in range(3)]))
            self.assertEqual(pf_turns(others_of(g))[0], 1)
            told = pf_rows(g)
            self.assertEqual(told, slow_pf_rows(g), g)
            found.append(told)
        self.assertEqual(found, [[0, 0, 0]] * 12)


class Two(unittest.TestCase):
    def test_2_alone(self):
        for n in range(6, 33, 2):
            self.assertEqual(pf_rows(graph(n, ring(list(range(n))))), [2, 0, 0])
        self.assertEqual(pf_rows(graph(6, ring([0, 3, 1, 5, 2, 4]))), [2, 0, 0])
        self.assertEqual(pf_rows(graph(7, LEGS)), [2, 0, 0])

    def test_2_where_not_the_others_first_round_fails(self):
        # in the other graph 0 is joined to all
        g = graph(8, [(u + 1, v + 1) for u, v in LEGS])
        self.assertEqual(pf_turns(others_of(g))[2:4], [1, 5])
        self.assertEqual(pf_rows(g), [2, 0, 0])

    def test_32_points(self):
        self.assertEqual(pf_rows(graph(32, LEGS)), [2, 0, 0])
        self.assertEqual(pf_rows(graph(32, [(u, (u - 1) // 2) for u in range(1, 32)])), [2, 0, 0])
        # all joined but for seven of them
        ways = [(u, v) for u in range(7, 32) for v in range(u)]
        self.assertEqual(pf_rows(graph(32, LEGS + ways)), [2, 0, 0])

    def test_32_points_in_three_rows(self):
        for seed in range(12):
            g = graph_of_rows([thrown_row(32, 3 * seed + k) for k in range(3)])
            with self.subTest(g=g):
                self.assertEqual(pf_rows(g), [2, 0, 0])
                self.assertEqual(slow_pf_rows(g), [2, 0, 0])


class TwoRows(unittest.TestCase):
    def rows(self, g, first, then):
        self.assertEqual(pf_rows(g), [1, 2 * len(g)] + list(first) + list(then) + [0])

    def test_one_point_alone(self):
        self.assertEqual(pf_rows([0]), [1, 2, 0, 0, 0])

    def test_none_joined(self):
        self.assertEqual(pf_rows([0, 0]), [1, 4, 0, 1, 0, 1, 0])
        for n in (3, 5, 31, 32):
            self.rows([0] * n, range(n), range(n))

    def test_all_joined(self):
        self.assertEqual(pf_rows([2, 1]), [1, 4, 0, 1, 1, 0, 0])
        for n in (3, 5, 31, 32):
            self.rows(full(n), range(n), range(n - 1, -1, -1))

    def test_three_points(self):
        # 0 1, 2 1; the other 0 2
        self.rows(graph(3, [(0, 1), (1, 2)]), [0, 2, 1], [1, 0, 2])
        # 0 1, 0 2; the other 1 2
        self.rows(graph(3, [(0, 1), (0, 2)]), [0, 1, 2], [1, 2, 0])
        # 0 2, 1 2; the other 0 1
        self.rows(graph(3, [(0, 2), (1, 2)]), [0, 1, 2], [2, 0, 1])
        # 0 1; the others 0 2, 1 2
        self.rows(graph(3, [(0, 1)]), [0, 1, 2], [1, 0, 2])
        # 0 2; the others 0 1, 2 1
        self.rows(graph(3, [(0, 2)]), [0, 2, 1], [2, 0, 1])
        # 1 2; the others 0 1, 0 2
        self.rows(graph(3, [(1, 2)]), [0, 1, 2], [0, 2, 1])

    def test_four_points(self):
        # 0 1, 2 1, 2 3; the others 0 2, 0 3, 1 3
        self.rows(graph(4, [(0, 1), (1, 2), (2, 3)]), [0, 2, 1, 3], [1, 0, 3, 2])
        # 0 1, 0 3, 2 1, 2 3; the others 0 2, 1 3
        self.rows(graph(4, ring([0, 1, 2, 3])), [0, 2, 1, 3], [1, 3, 0, 2])
        # 0 3, 1 2; the others 0 1, 0 2, 3 1, 3 2
        self.rows(graph(4, [(0, 3), (1, 2)]), [0, 3, 1, 2], [3, 0, 2, 1])
        # 0 1, 0 2, 1 2, 3 2; the others 0 3, 1 3
        self.rows(graph(4, ring([0, 1, 2]) + [(2, 3)]), [0, 1, 3, 2], [2, 1, 0, 3])

    def test_32_points_with_few_ways(self):
        # 0 16; the others, by 0 1: from 0 and 16 to all, and these among themselves rising
        rest = [u for u in range(32) if u not in (0, 16)]
        self.rows(graph(32, [(0, 16)]), [0, 16] + rest, [16, 0] + rest)
        # 30 31; the others, by 0 1 and so on: rising
        self.rows(graph(32, [(30, 31)]), range(32), list(range(30)) + [31, 30])

    def test_32_points_with_many_ways(self):
        # all are joined but 30 and 31
        self.rows(others_of(graph(32, [(30, 31)])), range(32), [30, 31] + list(range(29, -1, -1)))
        two = graph(32, [(u, v) for u in range(16) for v in range(16, 32)])
        self.rows(two, range(32), list(range(16, 32)) + list(range(16)))
        halves = graph(32, [(u, v) for u, v in itertools.combinations(range(32), 2) if u // 16 == v // 16])
        self.rows(halves, range(32), list(range(15, -1, -1)) + list(range(31, 15, -1)))

    def test_32_points_in_two_rows(self):
        for seed in range(20):
            g = graph_of_rows([thrown_row(32, seed), thrown_row(32, seed + 100)])
            with self.subTest(g=g):
                told = pf_rows(g)
                self.assertEqual(told[0], 1)
                self.assertEqual(told, slow_pf_rows(g))

    def test_32_points_in_a_way(self):
        for seed in range(4):
            g = shuffled(graph(32, [(u, u + 1) for u in range(31)]), seed)
            told = pf_rows(g)
            self.assertEqual(told[0], 1)
            self.assertEqual(told, slow_pf_rows(g))


class Proof(unittest.TestCase):
    def just_those_joined_change(self, g, told):
        n = len(g)
        first = told[2:2 + n]
        then = told[2 + n:2 + 2 * n]
        self.assertEqual(sorted(first), list(range(n)))
        self.assertEqual(sorted(then), list(range(n)))
        for u, v in itertools.combinations(range(n), 2):
            change = (first.index(u) < first.index(v)) != (then.index(u) < then.index(v))
            self.assertEqual(change, bool(g[u] >> v & 1))

    def test_just_those_joined_change_their_order(self):
        for n in range(1, 6):
            for g in graphs_of(n):
                told = pf_rows(g)
                if told[0] == 1:
                    self.just_those_joined_change(g, told)
        for seed in range(20):
            g = graph_of_rows([thrown_row(32, seed), thrown_row(32, seed + 200)])
            self.just_those_joined_change(g, pf_rows(g))

    def test_1_just_where_there_are_two_such_rows(self):
        for n in range(1, 6):
            rows = list(itertools.permutations(range(n)))
            can_be = {tuple(graph_of_rows(two)) for two in itertools.product(rows, rows)}
            for g in graphs_of(n):
                self.assertEqual(pf_rows(g)[0] == 1, tuple(g) in can_be, g)


class AgainstTheSlowReading(unittest.TestCase):
    def test_every_graph_of_up_to_6_points(self):
        for n in range(1, 7):
            for g in graphs_of(n):
                self.assertEqual(pf_rows(g), slow_pf_rows(g), g)

    def test_other_graphs(self):
        for seed in range(150):
            n = 7 + seed % 6
            for g in (thrown_graph(n, 10 + seed % 9 * 10, seed),
                      graph_of_rows([thrown_row(n, seed), thrown_row(n, seed + 300)]),
                      spans_graph(thrown_spans(n, 3 + seed % 9, 1 + seed % 5, seed), seed)):
                self.assertEqual(pf_rows(g), slow_pf_rows(g), g)


if __name__ == "__main__":
    unittest.main()
