"""What holds for every call: when g is a graph, the refusal -2, the form of an answer, and what is left as it was."""
import contextlib
import inspect
import io
import itertools
import unittest

from plaingraphs import graphs
from samples import (full, graph, graph_of_rows, grown_graph, others_of, parted_graph, ring, slow_pf_cliques,
                     slow_pf_greatest, slow_pf_order, slow_pf_parts, slow_pf_rows, slow_pf_spans, slow_pf_steps,
                     slow_pf_turns, spans_graph, stepped_graph, thrown_graph, thrown_row, thrown_spans)

CALLS = (graphs.pf_order, graphs.pf_cliques, graphs.pf_greatest, graphs.pf_spans, graphs.pf_turns, graphs.pf_rows,
         graphs.pf_parts, graphs.pf_steps)
REFUSED = [-2, 0, 0]
SOME = (
    [], [0], [1], [2, 0], [0, 0], full(4), full(32), graph(4, ring([0, 1, 2, 3])),
    graph(5, [(0, 1)] + ring([1, 2, 3, 4])), graph(7, [(0, 1), (0, 2), (1, 3), (1, 4), (2, 5), (2, 6)]),
    graph(6, ring([0, 1, 2]) + [(0, 3), (1, 4), (2, 5)]), spans_graph(thrown_spans(32, 20, 5, 5), 5),
    grown_graph(32, 4, 5), thrown_graph(32, 30, 5), graph(32, ring(list(range(32)))),
    graph(7, [(0, 1)] + ring([2, 3, 4, 5, 6])), others_of(graph(6, ring(list(range(6))))),
    graph_of_rows([thrown_row(32, 5), thrown_row(32, 6)]), graph(5, ring(list(range(5)))),
    graph(32, ring([27, 28, 29, 30, 31])), parted_graph(32, 12, 50, 5), stepped_graph(32, 50, 5),
)


class Kept(list):
    """A list that can't be changed."""

    def refuse(self, *given, **named):
        raise AssertionError("what is handed in is changed")

    __setitem__ = __delitem__ = __iadd__ = __imul__ = refuse
    append = extend = insert = pop = remove = clear = sort = reverse = refuse


class NoGraph(unittest.TestCase):
    def refused(self, g):
        for call in CALLS:
            with self.subTest(call=call, g=g):
                self.assertEqual(call(g), REFUSED)

    def test_no_points(self):
        self.refused([])

    def test_joined_to_itself(self):
        self.refused([1])
        self.refused([2, 3])
        self.refused([3, 1])
        for u in range(32):
            self.refused([1 << v if v == u else 0 for v in range(32)])
            self.refused([mask | 1 << u if v == u else mask for v, mask in enumerate(full(32))])

    def test_joined_to_one_that_there_is_not(self):
        self.refused([2])
        self.refused([4294967295])
        self.refused([2147483648])
        self.refused([6, 1])
        self.refused([2, 5])
        self.refused([2, 1, 8])
        for n in range(1, 32):
            self.refused([0] * (n - 1) + [1 << n])
            self.refused([1 << 31] + [0] * (n - 1))
            self.refused([1 << n for _ in range(n)])

    def test_joined_one_way_only(self):
        self.refused([2, 0])
        self.refused([0, 1])
        self.refused([2, 5, 0])
        self.refused([6, 5, 1])
        self.refused([2, 4, 1])
        for u, v in itertools.permutations(range(32), 2):
            for call in CALLS:
                self.assertEqual(call([1 << v if w == u else 0 for w in range(32)]), REFUSED)
        g = full(32)
        g[31] = g[31] - 1
        self.refused(g)

    def test_no_graph_is_refused_ahead_of_a_circle(self):
        g = graph(6, ring([0, 1, 2, 3]))
        g[4] = 1 << 5
        self.refused(g)

    def test_all_lists_of_few_small_masks(self):
        for n in range(4):
            for masks in itertools.product(range(2 << n), repeat=n):
                g = list(masks)
                self.assertEqual(graphs.pf_order(g), slow_pf_order(g), g)
                self.assertEqual(graphs.pf_cliques(g), slow_pf_cliques(g), g)
                self.assertEqual(graphs.pf_greatest(g), slow_pf_greatest(g), g)
                self.assertEqual(graphs.pf_spans(g), slow_pf_spans(g), g)
                self.assertEqual(graphs.pf_turns(g), slow_pf_turns(g), g)
                self.assertEqual(graphs.pf_rows(g), slow_pf_rows(g), g)
                self.assertEqual(graphs.pf_parts(g), slow_pf_parts(g), g)
                self.assertEqual(graphs.pf_steps(g), slow_pf_steps(g), g)

    def test_32_points_are_not_too_many(self):
        for call in CALLS:
            self.assertNotEqual(call([0] * 32), REFUSED)

    def test_more_than_32_points(self):
        self.refused([0] * 33)


class Interface(unittest.TestCase):
    def test_names_and_arguments(self):
        self.assertEqual([call.__name__ for call in CALLS],
                         ["pf_order", "pf_cliques", "pf_greatest", "pf_spans", "pf_turns", "pf_rows", "pf_parts",
                          "pf_steps"])
        for call in CALLS:
            self.assertEqual(str(inspect.signature(call)), "(g)")
            self.assertEqual(call(g=[0]), call([0]))


class Form(unittest.TestCase):
    def test_one_list_of_whole_numbers(self):
        for call in CALLS:
            for g in SOME:
                told = call(g)
                self.assertIs(type(told), list)
                for number in told:
                    self.assertIs(type(number), int)

    def test_rows_are_as_long_as_told(self):
        for call in CALLS:
            for g in SOME:
                told = call(g)
                second = 2 + told[1]
                self.assertEqual(len(told), second + 1 + told[second])
                if told[0] < 0:
                    self.assertEqual(told[1:], [0, 0])

    def test_nothing_is_printed(self):
        out = io.StringIO()
        with contextlib.redirect_stdout(out), contextlib.redirect_stderr(out):
            for call in CALLS:
                for g in SOME:
                    call(g)
        self.assertEqual(out.getvalue(), "")


class LeftAsItWas(unittest.TestCase):
    def test_g_is_not_changed(self):
        for call in CALLS:
            for g in SOME:
                handed = list(g)
                call(handed)
                self.assertEqual(handed, g)

    def test_g_is_not_changed_for_a_while_either(self):
        for call in CALLS:
            for g in SOME:
                self.assertEqual(call(Kept(g)), call(list(g)))

    def test_the_answer_is_not_g(self):
        for call in CALLS:
            for g in SOME:
                handed = list(g)
                told = call(handed)
                told.clear()
                self.assertEqual(handed, g)

    def test_the_same_again(self):
        first = [call(g) for call in CALLS for g in SOME]
        kept = [list(told) for told in first]
        for told in first:
            told.append(99)
        again = [call(g) for call in reversed(CALLS) for g in reversed(SOME)]
        self.assertEqual(list(reversed(again)), kept)


if __name__ == "__main__":
    unittest.main()
