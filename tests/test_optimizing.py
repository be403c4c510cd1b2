"""Point 405."""

import unittest

from making import const, given, is_tuples, node, random_feeds, random_graph
from tensorcompiler.errors import FormError, KindError, RangeError, RuleError
from tensorcompiler.graphs import check_graph, work_of
from tensorcompiler.meaning import evaluate
from tensorcompiler.notation import read_graph
from tensorcompiler.optimizing import cost_of, optimize
from tensorcompiler.rewriting import replay, sites
from tensorcompiler.rules import RULES, apply_rule
from tensorcompiler.tidying import prune

# Graphs with a single step that lowers the cost, what the cost is, and what it becomes.
CHEAPER = (
    ("input i2k3 -9 9\nneg 0\nneg 1\nout 2\n", 12, 0),
    ("input i2k3 -9 9\ninput k3 -9 9\nmul 0 1\nsum 2 k\nout 3\n", 12, 6),
    ("input i2k3 -9 9\ninput i2k3 -9 9\nsum 0 k\nsum 1 k\nadd 2 3\nout 4\n", 14, 12),
    ("input . -9 9\ninput . -9 9\ninput i4 -9 9\nadd 1 2\nadd 0 3\nout 4\n", 8, 5),
    ("input i4 -9 9\ninput i4 -9 9\ninput i4 -9 9\nmul 0 1\nmul 0 2\nadd 3 4\nout 5\n", 12, 8),
    ("input i4 -9 9\nclamp 0 -9 9\nout 1\n", 4, 0),
    ("input i4 -9 9\nclamp 0 -8 8\nclamp 1 -7 7\nout 2\n", 8, 4),
    ("input i4 -9 9\nconst . 0\nadd 0 1\nout 2\n", 4, 0),
    ("input i4 -9 9\nconst . 1\nmul 0 1\nout 2\n", 4, 0),
    ("input i4 -9 9\nmax 0 0\nout 1\n", 4, 0),
    ("input i4 -9 9\nconst . 10\nless 0 1\nout 2\n", 4, 0),
    ("input i4 -9 9\nwhere 0 0 0\nout 1\n", 4, 0),
    ("input i4 -9 9\npad 0 i 1 2\ncut 1 i 1 4\nout 2\n", 11, 0),
    ("input i2k3 -9 9\norder 0 ki\norder 1 ik\norder 2 ki\nout 3\n", 18, 6),
)


def cheaper_steps(graph):
    """All steps that lower the cost, found by trying every rule at every node."""
    cost = cost_of(graph)
    found = []
    for rule in RULES:
        for place in sites(graph, rule):
            if cost_of(apply_rule(graph, rule, place)) < cost:
                found.append((rule, place))
    return found


class Costs(unittest.TestCase):
    def test_the_work_of_what_the_outputs_need(self):
        nodes = (given("i2k3"), node("neg", (0,)), node("sum", (1,), "k"), node("mul", (0, 0)), node("neg", (3,)))
        self.assertEqual(cost_of((nodes, (2,))), 12)
        self.assertEqual(cost_of((nodes, (2, 1, 2))), 12)
        self.assertEqual(cost_of((nodes, (0,))), 0)
        self.assertEqual(cost_of((nodes, (4,))), 12)
        self.assertEqual(cost_of((nodes, (2, 4))), 24)

    def test_random_graphs(self):
        for seed in range(30):
            graph = random_graph(seed, 30)
            self.assertEqual(cost_of(graph), work_of(prune(graph)))

    def test_errors_of_the_graph(self):
        with self.assertRaises(FormError):
            cost_of(((given(""),), ()))
        with self.assertRaises(KindError):
            cost_of(((("odd", (), ()),), (0,)))


class Optimizing(unittest.TestCase):
    def check(self, graph, fuel):
        steps, result = optimize(graph, fuel)
        self.assertTrue(is_tuples((steps, result)))
        self.assertLessEqual(len(steps), fuel)
        self.assertEqual(replay(graph, steps), result)
        self.assertLessEqual(cost_of(result), cost_of(graph))
        if len(steps) < fuel:
            self.assertEqual(cheaper_steps(result), [])
        return steps, result

    def test_graphs_with_cheaper_ones(self):
        for text, before, after in CHEAPER:
            graph = read_graph(text)
            self.assertEqual(cost_of(graph), before, text)
            steps, result = self.check(graph, 50)
            self.assertEqual(cost_of(result), after, text)
            self.assertEqual(optimize(graph, 0), ((), graph))
            self.assertEqual(optimize(result, 50), ((), result))

    def test_nothing_to_do(self):
        graph = ((given("i2"), node("neg", (0,)), node("add", (0, 1))), (2, 1))
        self.assertEqual(optimize(graph, 50), ((), graph))
        # What no output needs costs nothing and is left as it is.
        graph = ((given("i2"), node("neg", (0,)), node("neg", (1,)), node("neg", (0,))), (3,))
        self.assertEqual(optimize(graph, 50), ((), graph))

    def test_random_graphs(self):
        lowered = 0
        for seed in range(40):
            graph = random_graph(seed, 16)
            graph = (graph[0], graph[1] + (len(graph[0]) - 1,))
            steps, result = self.check(graph, (50, 1, 2, 49)[seed % 4])
            lowered += cost_of(result) < cost_of(graph)
            feeds = random_feeds(seed, graph)
            self.assertEqual(evaluate(result, feeds), evaluate(graph, feeds))
        self.assertGreater(lowered, 5)

    def test_random_graphs_of_few_kinds(self):
        for seed in range(25):
            graph = random_graph(seed, 14, ("add", "mul", "neg", "sub", "sum", "dot", "order", "clamp", "max"))
            self.check((graph[0], tuple(range(3, len(graph[0]), 3))), 50)

    def test_fuel_that_runs_out(self):
        # 120 negations in a row can lose two at a time.
        nodes = (given("i2"),) + tuple(node("neg", (place,)) for place in range(120))
        for fuel in (0, 1, 7, 50):
            steps, result = self.check((nodes, (120,)), fuel)
            self.assertEqual(len(steps), fuel)
            self.assertEqual(cost_of(result), 240 - 4 * fuel)
        steps, result = self.check((nodes[:41], (40,)), 50)
        self.assertEqual((len(steps), cost_of(result)), (20, 0))

    def test_a_step_that_would_not_leave_a_valid_graph(self):
        # add-left makes two nodes of one and would lower the cost, but there is no room for one more node.
        nodes = (given(""), given(""), given("i16"), node("add", (1, 2)), node("add", (0, 3)))
        rest = (given(""),) * 394
        steps, result = optimize((nodes + rest, (4,)), 50)
        self.assertEqual(len(result[0]), 400)
        self.assertEqual((len(steps), cost_of(result)), (1, 17))
        full = (nodes + rest + (given(""),), (4,))
        with self.assertRaises(RuleError):
            apply_rule(full, "add-left", 4)
        self.assertEqual(optimize(full, 50), ((), full))
        check_graph(full)

    def test_the_next_best_step_where_the_best_is_not_valid(self):
        nodes = (
            given(""), given(""), given("i16"), node("add", (1, 2)), node("add", (0, 3)), node("neg", (0,)),
            node("neg", (5,)))
        full = (nodes + (given(""),) * 393, (4, 6))
        steps, result = optimize(full, 1)
        self.assertEqual(steps, (("neg-neg", 6),))
        self.assertEqual(cost_of(result), 32)
        # Then there is room for the other one.
        self.assertEqual(cost_of(optimize(full, 50)[1]), 17)

    def test_parts_that_are_used_elsewhere_are_not_spared(self):
        graph = read_graph("input i2k3 -9 9\ninput k3 -9 9\nmul 0 1\nsum 2 k\nout 3 2\n")
        self.assertEqual(optimize(graph, 50), ((), graph))

    def test_parts_that_only_nodes_use_that_no_output_needs(self):
        graph = read_graph("input i2k3 -9 9\ninput k3 -9 9\nmul 0 1\nneg 2\nsum 2 k\nneg 3\nout 4\n")
        steps, result = self.check(graph, 50)
        self.assertEqual((steps, cost_of(result)), ((("sum-dot", 4),), 6))

    def test_fuel_out_of_its_range(self):
        graph = ((given(""),), (0,))
        self.assertEqual(optimize(graph, 0), ((), graph))
        self.assertEqual(optimize(graph, 50), ((), graph))
        for fuel in (-1, 51, -50, 1000):
            with self.assertRaises(RangeError):
                optimize(graph, fuel)

    def test_errors_of_the_graph_come_first(self):
        for fuel in (0, 50, -1, 51):
            with self.assertRaises(FormError):
                optimize(((const("", 1),), ()), fuel)
            with self.assertRaises(KindError):
                optimize(((("odd", (), ()),), (0,)), fuel)


if __name__ == "__main__":
    unittest.main()
