"""Points 202 and 208: the values of the nodes."""

import unittest

from making import const, given, is_tuples, node, random_feeds, random_graph, shape_of
from reference import node_values
from tensorcompiler.errors import FeedError, FormError, KindError, RangeError
from tensorcompiler.graphs import check_graph
from tensorcompiler.kinds import KINDS
from tensorcompiler.meaning import evaluate, evaluate_all


def values_of(nodes, *feeds):
    """The value of the last node."""
    return evaluate((tuple(nodes), (len(nodes) - 1,)), feeds)[0]


class Values(unittest.TestCase):
    def test_the_example(self):
        nodes = (("input", (), ((("k", 3),), -9, 9)), ("sum", (0,), ("k",)))
        self.assertEqual(evaluate((nodes, (1, 0)), ((1, 2, -4),)), ((-1,), (1, 2, -4)))

    def test_sources(self):
        self.assertEqual(values_of([given("i2j2")], (1, 2, 3, 4)), (1, 2, 3, 4))
        self.assertEqual(values_of([const("i3", 7, 8, 9)]), (7, 8, 9))
        self.assertEqual(values_of([const("", -3)]), (-3,))

    def test_pointwise_with_axes_in_another_order(self):
        nodes = [given("i2j3"), given("j3i2", 0, 99)]
        feeds = ((1, 2, 3, 4, 5, 6), (10, 20, 30, 40, 50, 60))
        self.assertEqual(values_of(nodes + [node("add", (0, 1))], *feeds), (11, 32, 53, 24, 45, 66))
        self.assertEqual(values_of(nodes + [node("add", (1, 0))], *feeds), (11, 24, 32, 45, 53, 66))
        self.assertEqual(values_of(nodes + [node("sub", (0, 1))], *feeds), (-9, -28, -47, -16, -35, -54))
        self.assertEqual(values_of(nodes + [node("dot", (0, 1), "j")], *feeds), (1 * 10 + 2 * 30 + 3 * 50, 4 * 20 + 5 * 40 + 6 * 60))
        self.assertEqual(values_of(nodes + [node("dot", (1, 0), "i")], *feeds), (10 + 80, 60 + 200, 150 + 360))

    def test_broadcasts(self):
        nodes = [given("i2"), given("j2", 0, 99)]
        feeds = ((1, 2), (10, 20))
        self.assertEqual(values_of(nodes + [node("mul", (0, 1))], *feeds), (10, 20, 20, 40))
        self.assertEqual(values_of(nodes + [node("mul", (1, 0))], *feeds), (10, 20, 20, 40))
        self.assertEqual(values_of(nodes + [node("sub", (1, 0))], *feeds), (9, 8, 19, 18))
        nodes = [given("k2"), given("i2"), given("")]
        self.assertEqual(values_of(nodes + [node("where", (0, 1, 2))], (0, -1), (3, 4), (5,)), (5, 5, 3, 4))
        self.assertEqual(values_of(nodes + [node("where", (1, 2, 0))], (7, 8), (0, 1), (5,)), (7, 8, 5, 5))

    def test_pointwise_kinds(self):
        nodes = [given("i5"), given("i5")]
        feeds = ((1, -2, 3, 4, 0), (2, -2, -3, 0, 0))
        cases = (
            ("add", (3, -4, 0, 4, 0)), ("sub", (-1, 0, 6, 4, 0)), ("mul", (2, 4, -9, 0, 0)), ("max", (2, -2, 3, 4, 0)),
            ("min", (1, -2, -3, 0, 0)), ("less", (1, 0, 0, 0, 0)), ("equal", (0, 1, 0, 0, 1)),
        )
        for kind, wanted in cases:
            self.assertEqual(values_of(nodes + [node(kind, (0, 1))], *feeds), wanted)
        self.assertEqual(values_of([given("i3"), node("neg", (0,))], (1, 0, -5)), (-1, 0, 5))
        self.assertEqual(values_of([given("i3"), node("clamp", (0,), -1, 3)], (5, 0, -5)), (3, 0, -1))
        self.assertEqual(values_of([given("i3"), node("shift", (0,), 1)], (5, 0, -5)), (3, 0, -2))

    def test_reducing_kinds(self):
        feed = (1, 5, -3, 4, 4, -9)
        self.assertEqual(values_of([given("i2j3"), node("sum", (0,), "i")], feed), (5, 9, -12 + 0))
        self.assertEqual(values_of([given("i2j3"), node("sum", (0,), "j")], feed), (3, -1))
        self.assertEqual(values_of([given("i2j3"), node("peak", (0,), "i")], feed), (4, 5, -3))
        self.assertEqual(values_of([given("i2j3"), node("peak", (0,), "j")], feed), (5, 4))
        self.assertEqual(values_of([given("i2"), given("i2"), node("dot", (0, 1), "i")], (3, 4), (5, -6)), (-9,))

    def test_moving_kinds(self):
        feed = (1, 2, 3, 4, 5, 6)
        self.assertEqual(values_of([given("i2j3"), node("order", (0,), "ji")], feed), (1, 4, 2, 5, 3, 6))
        self.assertEqual(values_of([given("i2j3"), node("rename", (0,), "i", "a")], feed), feed)
        self.assertEqual(values_of([given("i2"), node("spread", (0,), "a", 3)], (1, 2)), (1, 1, 1, 2, 2, 2))
        self.assertEqual(values_of([given("i2j3"), node("cut", (0,), "j", 1, 2)], feed), (2, 3, 5, 6))
        self.assertEqual(values_of([given("i2j3"), node("cut", (0,), "i", 1, 1)], feed), (4, 5, 6))
        self.assertEqual(values_of([given("i2"), node("pad", (0,), "i", 1, 2)], (7, 8)), (0, 7, 8, 0, 0))
        self.assertEqual(values_of([given("i2j1"), node("pad", (0,), "j", 1, 0)], (7, 8)), (0, 7, 0, 8))
        nodes = [given("i2j1"), given("i2j2"), node("join", (0, 1), "j")]
        self.assertEqual(values_of(nodes, (1, 2), (3, 4, 5, 6)), (1, 3, 4, 2, 5, 6))
        nodes = [given("i1j2"), given("i2j2"), node("join", (0, 1), "i")]
        self.assertEqual(values_of(nodes, (1, 2), (3, 4, 5, 6)), (1, 2, 3, 4, 5, 6))

    def test_windows_and_folds(self):
        self.assertEqual(values_of([given("i5"), node("window", (0,), "i", "w", 2, 2)], (1, 2, 3, 4, 5)), (1, 2, 3, 4))
        self.assertEqual(
            values_of([given("i5"), node("window", (0,), "i", "w", 3, 1)], (1, 2, 3, 4, 5)), (1, 2, 3, 2, 3, 4, 3, 4, 5))
        self.assertEqual(values_of([given("i2w2"), node("fold", (0,), "i", "w", 1, 5)], (1, 2, 3, 4)), (1, 5, 4, 0, 0))
        self.assertEqual(values_of([given("w2i2"), node("fold", (0,), "i", "w", 2, 5)], (1, 2, 3, 4)), (1, 3, 2, 4, 0))
        self.assertEqual(values_of([given("i2w2"), node("fold", (0,), "i", "w", 3, 6)], (1, 2, 3, 4)), (1, 2, 0, 3, 4, 0))

    def test_gathers(self):
        nodes = [given("i3j2"), given("a4"), node("gather", (0, 1), "i")]
        feed = (1, 2, 3, 4, 5, 6)
        self.assertEqual(values_of(nodes, feed, (2, 0, -5, 9)), (5, 6, 1, 2, 1, 2, 5, 6))
        nodes = [given("i3j2"), given("a2b1"), node("gather", (0, 1), "j")]
        self.assertEqual(values_of(nodes, feed, (1, 0)), (2, 1, 4, 3, 6, 5))
        nodes = [given("i3"), given(""), node("gather", (0, 1), "i")]
        self.assertEqual(values_of(nodes, (7, 8, 9), (1,)), (8,))

    def test_random_graphs_against_the_tables(self):
        seen = set()
        for seed in range(150):
            graph = random_graph(seed, 30)
            seen.update(one[0] for one in graph[0])
            domains = check_graph(graph)
            feeds = random_feeds(seed, graph)
            values = evaluate_all(graph, feeds)
            self.assertEqual(values, tuple(node_values(graph[0], [domain[0] for domain in domains], feeds)))
            self.assertTrue(is_tuples(values))
            self.assertEqual(evaluate(graph, feeds), tuple(values[out] for out in graph[1]))
            for value, (_, low, high) in zip(values, domains):
                self.assertTrue(all(low <= n <= high for n in value))
        self.assertEqual(seen, set(KINDS))


class Errors(unittest.TestCase):
    GRAPH = ((given("i2", -3, 3), const("", 1), given("", 0, 5), given("j2", 7, 8)), (1,))

    def check(self, feeds, error):
        for function in (evaluate, evaluate_all):
            with self.subTest(feeds):
                with self.assertRaises(error) as caught:
                    function(self.GRAPH, feeds)
                self.assertIs(type(caught.exception), error)

    def test_the_ends_of_the_intervals(self):
        feeds = ((-3, 3), (0,), (7, 8))
        self.assertEqual(evaluate(self.GRAPH, feeds), ((1,),))
        self.assertEqual(evaluate_all(self.GRAPH, feeds), ((-3, 3), (1,), (0,), (7, 8)))

    def test_each_error(self):
        self.check((), FeedError)
        self.check(((0, 0), (0,)), FeedError)
        self.check(((0, 0), (0,), (7, 7), (7, 7)), FeedError)
        self.check(((0,), (0,), (7, 7)), FeedError)
        self.check(((0, 0, 0), (0,), (7, 7)), FeedError)
        self.check(((0, 0), (), (7, 7)), FeedError)
        self.check(((0, 0), (0,), (7,)), FeedError)
        for n in (-4, 4):
            self.check(((n, 0), (0,), (7, 7)), RangeError)
            self.check(((0, n), (0,), (7, 7)), RangeError)
        self.check(((0, 0), (-1,), (7, 7)), RangeError)
        self.check(((0, 0), (6,), (7, 7)), RangeError)
        self.check(((0, 0), (0,), (7, 6)), RangeError)

    def test_which_error_comes_first(self):
        self.check(((9, 9), (0,)), FeedError)
        self.check(((9, 0), (), (7, 7)), RangeError)
        self.check(((0,), (9,), (7, 7)), FeedError)
        self.check(((9,), (9,), (7, 7)), FeedError)
        self.check(((0, 0), (9,), ()), RangeError)

    def test_no_inputs(self):
        graph = ((const("", 4),), (0, 0))
        self.assertEqual(evaluate(graph, ()), ((4,), (4,)))
        with self.assertRaises(FeedError):
            evaluate(graph, ((1,),))

    def test_errors_of_the_graph_come_first(self):
        for function in (evaluate, evaluate_all):
            with self.assertRaises(FormError):
                function(((given(""),), ()), ())
            with self.assertRaises(KindError):
                function(((("odd", (), ()),), (0,)), ((99,),))

    def test_arguments_stay_as_they_are(self):
        graph = random_graph(7, 25)
        feeds = random_feeds(7, graph)
        before = repr((graph, feeds))
        evaluate_all(graph, feeds)
        self.assertEqual(repr((graph, feeds)), before)


if __name__ == "__main__":
    unittest.main()
