"""Points 204 and 205."""

import unittest

from making import const, given, is_tuples, node, random_graph, shape_of
from tensorcompiler.domains import domain_of
from tensorcompiler.errors import AxisError, FormError, KindError, RangeError, TooLarge, TooWide
from tensorcompiler.graphs import check_graph, inputs_of, work_of


def chain(many):
    """A graph of many nodes with little work."""
    return ((given("", 0, 1),) + tuple(node("neg", (k,)) for k in range(many - 1)), (many - 1,))


def heavy(rest):
    """A graph whose work is 49920 plus the rest, which is at most 256."""
    nodes = [given("i16j16", 0, 1)]
    nodes += [node("neg", (0,)) for _ in range(195)]
    word = f"i{rest}" if rest <= 16 else f"i16j{rest // 16}"
    nodes += [given(word, 0, 1), node("neg", (196,))]
    return (tuple(nodes), (0,))


class Checking(unittest.TestCase):
    def test_the_example(self):
        graph = ((("input", (), ((("i", 2),), -3, 4)), ("mul", (0, 0), ())), (1,))
        self.assertEqual(check_graph(graph), (((("i", 2),), -3, 4), ((("i", 2),), -12, 16)))

    def test_the_domains_of_all_nodes(self):
        for seed in range(20):
            nodes, outs = random_graph(seed, 25)
            domains = check_graph((nodes, outs))
            self.assertTrue(is_tuples(domains))
            self.assertEqual(len(domains), len(nodes))
            for k, one in enumerate(nodes):
                self.assertEqual(domains[k], domain_of(one, domains[:k]))

    def test_numbers_of_nodes(self):
        self.assertEqual(len(check_graph(chain(400))), 400)
        with self.assertRaises(TooLarge):
            check_graph(chain(401))
        # It comes before the errors of the nodes.
        with self.assertRaises(TooLarge):
            check_graph(((("odd", (), ()),) * 401, ()))
        with self.assertRaises(KindError):
            check_graph(((("odd", (), ()),) * 400, ()))

    def test_the_first_node_with_an_error_decides(self):
        wide = given("", 0, 2 ** 200 + 1)
        axis = given("i1i1", 0, 1)
        with self.assertRaises(TooWide):
            check_graph(((given(""), wide, axis), ()))
        with self.assertRaises(AxisError):
            check_graph(((given(""), axis, wide), ()))
        with self.assertRaises(FormError):
            check_graph(((given(""), node("neg", (1,))), (0,)))
        with self.assertRaises(FormError):
            check_graph(((given(""), node("neg", (2,)), given("")), (0,)))

    def test_outputs(self):
        nodes = (given(""), node("neg", (0,)))
        for outs in ((), (2,), (-1,), (0, 2), (0, 1, -1)):
            with self.assertRaises(FormError):
                check_graph((nodes, outs))
        self.assertEqual(len(check_graph((nodes, (1, 0, 1, 1)))), 2)
        with self.assertRaises(FormError):
            check_graph(((), ()))
        with self.assertRaises(FormError):
            check_graph(((), (0,)))
        # The errors of the nodes come first.
        with self.assertRaises(RangeError):
            check_graph(((given("", 1, 0),), ()))

    def test_the_greatest_work(self):
        self.assertEqual(work_of(heavy(80)), 50000)
        for graph in (heavy(96), (heavy(80)[0] + (given(""), node("neg", (198,))), (0,))):
            for function in (check_graph, work_of, inputs_of):
                with self.assertRaises(TooLarge):
                    function(graph)
        # Bad outputs come before the work.
        with self.assertRaises(FormError):
            check_graph((heavy(96)[0], ()))
        with self.assertRaises(FormError):
            check_graph((heavy(96)[0], (999,)))


class Work(unittest.TestCase):
    def check(self, one, more):
        """The work of a graph with the node is that of the graph without it, and that many more."""
        nodes = (given("i4k3"), given("k3j2"), given("m2"), const("i2", 1, 2))
        self.assertEqual(work_of((nodes, (0,))), 0)
        self.assertEqual(work_of((nodes + (one,), (0,))), more, one)

    def test_each_kind(self):
        self.check(given("i5"), 0)
        self.check(const("i2", 1, 2), 0)
        for kind in ("add", "sub", "mul", "max", "min", "less", "equal"):
            self.check(node(kind, (0, 1)), 24)
        self.check(node("neg", (0,)), 12)
        self.check(node("clamp", (0,), 0, 1), 12)
        self.check(node("shift", (0,), 1), 12)
        self.check(node("where", (2, 0, 1)), 48)
        self.check(node("sum", (0,), "i"), 12)
        self.check(node("peak", (0,), "k"), 12)
        self.check(node("dot", (0, 1), "k"), 24)
        self.check(node("dot", (0, 0), "k"), 12)
        self.check(node("order", (0,), "ki"), 12)
        self.check(node("rename", (0,), "k", "z"), 12)
        self.check(node("spread", (0,), "z", 5), 60)
        self.check(node("cut", (0,), "i", 1, 2), 6)
        self.check(node("pad", (0,), "i", 1, 2), 21)
        self.check(node("join", (0, 0), "i"), 24)
        self.check(node("window", (0,), "i", "z", 2, 1), 18)
        self.check(node("fold", (0,), "i", "k", 2, 11), 12)
        self.check(node("gather", (0, 2), "i"), 6)

    def test_sums_over_the_nodes(self):
        nodes = (given("i4k3"), node("neg", (0,)), node("sum", (1,), "i"), node("neg", (2,)))
        self.assertEqual(work_of((nodes, (0,))), 12 + 12 + 3)


class Inputs(unittest.TestCase):
    def test_in_order(self):
        nodes = (const("", 1), given("i2"), node("neg", (0,)), given(""), given("i2"), node("neg", (1,)))
        self.assertEqual(inputs_of((nodes, (0,))), (1, 3, 4))
        self.assertEqual(inputs_of(((const("", 1),), (0,))), ())

    def test_wrong_graphs(self):
        for function in (inputs_of, work_of):
            with self.assertRaises(FormError):
                function(((given(""),), ()))
            with self.assertRaises(KindError):
                function(((("odd", (), ()),), (0,)))


if __name__ == "__main__":
    unittest.main()
