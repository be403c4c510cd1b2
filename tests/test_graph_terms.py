"""Point 505."""

import unittest

from making import const, given, is_tuples, node, random_feeds, random_graph
from tensorcompiler.errors import FormError, KindError
from tensorcompiler.graph_terms import graph_terms
from tensorcompiler.graphs import check_graph
from tensorcompiler.kinds import KINDS
from tensorcompiler.meaning import evaluate_all
from tensorcompiler.terms import Terms


def values_of(feeds):
    """The values of the variables for the feeds."""
    return {(k, e): n for k, feed in enumerate(feeds) for e, n in enumerate(feed)}


class GraphTerms(unittest.TestCase):
    def check(self, graph, feeds):
        table = Terms()
        terms = graph_terms(table, graph)
        self.assertTrue(is_tuples(terms))
        values = values_of(feeds)
        wanted = evaluate_all(graph, feeds)
        self.assertEqual([len(ids) for ids in terms], [len(numbers) for numbers in wanted])
        for ids, numbers, (_, low, high) in zip(terms, wanted, check_graph(graph)):
            for one, n in zip(ids, numbers):
                self.assertEqual(table.value(one, values), n)
                least, most = table.span(one)
                self.assertTrue(low <= least <= n <= most <= high)

    def test_drawn_graphs(self):
        met = set()
        for seed in range(120):
            graph = random_graph(seed, 25)
            met.update(kind for kind, _, _ in graph[0])
            for k in range(2):
                self.check(graph, random_feeds(seed * 2 + k, graph))
        self.assertEqual(met, set(KINDS))

    def test_inputs_and_consts(self):
        table = Terms()
        graph = ((given("i2", -1, 5), const("k3", 4, -4, 4), given("", 7, 7), given("k1", 0, 2)), (0,))
        first, data, fixed, last = graph_terms(table, graph)
        self.assertEqual(first, (table.variable((0, 0), -1, 5), table.variable((0, 1), -1, 5)))
        self.assertEqual(data, (table.number(4), table.number(-4), table.number(4)))
        # The inputs are counted, not the nodes; an input with one value is a number.
        self.assertEqual(fixed, (table.number(7),))
        self.assertEqual(last, (table.variable((2, 0), 0, 2),))
        with self.assertRaises(FormError):
            table.variable((1, 0), 7, 8)

    def test_a_table_that_has_terms_already(self):
        graph = ((given("", -1, 5), node("neg", (0,))), (1,))
        table = Terms()
        one = table.variable((0, 0), -1, 5)
        self.assertEqual(graph_terms(table, graph), ((one,), (table.make("neg", (one,), ()),)))
        self.assertEqual(graph_terms(table, graph), ((one,), (table.make("neg", (one,), ()),)))
        other = Terms()
        other.variable((0, 0), -1, 4)
        with self.assertRaises(FormError):
            graph_terms(other, graph)

    def test_sums_do_not_depend_on_their_order(self):
        nodes = (
            given("i2k3"), given("k3"), node("dot", (0, 1), "k"), node("mul", (1, 0)), node("sum", (3,), "k"),
            node("order", (0,), "ki"), node("dot", (1, 5), "k"))
        terms = graph_terms(Terms(), (nodes, (6,)))
        self.assertEqual(terms[2], terms[4])
        self.assertEqual(terms[2], terms[6])

    def test_the_greatest_is_made_from_the_first_on(self):
        table = Terms()
        terms = graph_terms(table, ((given("k4"), node("neg", (0,)), node("peak", (1,), "k")), (2,)))
        best = terms[1][0]
        for one in terms[1][1:]:
            best = table.make("max", (best, one), ())
        self.assertEqual(terms[2], (best,))
        # Here the order counts: the greater one of the first two is known to be 5, and the first one is lost.
        table = Terms()
        nodes = (given("k1", 0, 5), const("k1", 5), given("k1", 0, 9), node("join", (0, 1), "k"), node("join", (3, 2), "k"),
                 node("peak", (4,), "k"), node("join", (0, 2), "k"), node("join", (6, 1), "k"), node("peak", (7,), "k"))
        terms = graph_terms(table, (nodes, (5,)))
        (x,), (n,), (y,) = terms[:3]
        self.assertEqual(terms[5], (table.make("max", (n, y), ()),))
        self.assertEqual(terms[8], (table.make("max", (x, table.make("max", (n, y), ())), ()),))
        self.assertNotEqual(terms[5], terms[8])

    def test_gather_with_any_index(self):
        for low, high in ((-5, 9), (0, 2), (1, 1), (-7, -1), (4, 9), (-2, 1), (1, 8)):
            nodes = (given("i2k3", -9, 9), given("m2", low, high), node("gather", (0, 1), "k"))
            table = Terms()
            graph = (nodes, (2,))
            terms = graph_terms(table, graph)
            for place in range(4):
                i, m = divmod(place, 2)
                index = table.make("clamp", (terms[1][m],), (0, 2))
                self.assertEqual(terms[2][place], table.pick(terms[0][3 * i:3 * i + 3], index))
            for seed in range(5):
                self.check(graph, random_feeds(seed, graph))

    def test_wide_intervals(self):
        graph = ((given("i4", -2 ** 100, 2 ** 100), node("mul", (0, 0)), node("neg", (1,)), node("shift", (2,), 3)), (3,))
        for seed in range(5):
            self.check(graph, random_feeds(seed, graph))

    def test_errors_of_the_graph(self):
        with self.assertRaises(FormError):
            graph_terms(Terms(), ((given(""),), ()))
        with self.assertRaises(KindError):
            graph_terms(Terms(), ((("odd", (), ()),), (0,)))


if __name__ == "__main__":
    unittest.main()
