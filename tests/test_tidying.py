"""Point 404."""

import unittest

from making import const, given, is_tuples, node, random_feeds, random_graph, shape_of
from tensorcompiler.errors import FormError, KindError, TooLarge
from tensorcompiler.graphs import check_graph, inputs_of
from tensorcompiler.meaning import evaluate, evaluate_all
from tensorcompiler.tidying import fold_constants, prune, share


class Prunes(unittest.TestCase):
    def test_nothing_to_do(self):
        graph = ((given(""), const("", 2), node("mul", (0, 1)), node("neg", (2,))), (3, 2))
        self.assertEqual(prune(graph), graph)

    def test_what_no_output_needs_goes(self):
        nodes = (
            const("", 1), given("i2"), node("neg", (1,)), const("", 2), given(""), node("add", (2, 3)), node("neg", (5,)),
            node("mul", (2, 0)), node("neg", (4,)))
        self.assertEqual(prune((nodes, (5, 5))), (
            (given("i2"), node("neg", (0,)), const("", 2), given(""), node("add", (1, 2))), (4, 4)))
        self.assertEqual(prune((nodes, (8, 0))), (
            (const("", 1), given("i2"), given(""), node("neg", (2,))), (3, 0)))
        self.assertEqual(prune((nodes, (1,))), ((given("i2"), given("")), (0,)))
        self.assertEqual(prune((nodes, (6, 7))), (nodes[:8], (6, 7)))

    def test_random_graphs(self):
        for seed in range(40):
            graph = random_graph(seed, 30)
            result = prune(graph)
            self.assertEqual(prune(result), result)
            needed = set(result[1])
            for place in range(len(result[0]) - 1, -1, -1):
                self.assertTrue(place in needed or result[0][place][0] == "input")
                needed.update(result[0][place][1])
            self.assertEqual(len(inputs_of(result)), len(inputs_of(graph)))


class Folds(unittest.TestCase):
    def test_nothing_to_do(self):
        graph = ((given("i2"), const("", 2), node("mul", (0, 1)), node("neg", (2,)), node("where", (0, 1, 1))), (3, 2))
        self.assertEqual(fold_constants(graph), graph)

    def test_one_folded_node_leads_to_the_next(self):
        nodes = (
            const("i2", 2, -3), const("k2", 5, 7), given(""), node("mul", (0, 1)), node("sum", (3,), "i"),
            node("add", (4, 2)), node("neg", (4,)), node("gather", (1, 0), "k"), node("pad", (4,), "k", 1, 0))
        self.assertEqual(fold_constants((nodes, (5, 6, 4))), ((
            const("i2", 2, -3), const("k2", 5, 7), given(""), const("i2k2", 10, 14, -15, -21), const("k2", -5, -7),
            node("add", (4, 2)), const("k2", 5, 7), const("i2", 7, 5), const("k3", 0, -5, -7)), (5, 6, 4)))

    def test_random_graphs(self):
        for seed in range(60):
            graph = random_graph(seed, 30, ("const", "add", "mul", "sub", "sum", "order", "pad", "where", "fold", "peak"))
            result = fold_constants(graph)
            values = evaluate_all(graph, random_feeds(seed, graph))
            domains = check_graph(graph)
            for place, (old, new) in enumerate(zip(graph[0], result[0])):
                from_consts = bool(old[1]) and all(result[0][arg][0] == "const" for arg in old[1])
                wanted = ("const", (), (domains[place][0], values[place])) if from_consts else old
                self.assertEqual(new, wanted)


class Shares(unittest.TestCase):
    def test_nothing_to_do(self):
        graph = ((
            given("i2"), given("i2"), const("", 1), const("", 2), const("i1", 1), node("neg", (0,)), node("neg", (1,)),
            node("add", (0, 1)), node("add", (1, 0)), node("clamp", (0,), 0, 1), node("clamp", (0,), 0, 2)), (5, 6))
        self.assertEqual(share(graph), graph)

    def test_equal_nodes_become_one(self):
        nodes = (
            given("i2"), node("neg", (0,)), node("neg", (0,)), node("neg", (1,)), node("neg", (2,)), const("", 4),
            const("", 4), node("mul", (4, 6)), node("mul", (3, 5)), node("sub", (7, 8)))
        self.assertEqual(share((nodes, (9, 8, 4, 2))), ((
            given("i2"), node("neg", (0,)), node("neg", (1,)), const("", 4), node("mul", (2, 3)), node("sub", (4, 4))),
            (5, 4, 2, 1)))

    def test_equal_inputs_stay(self):
        graph = ((given("i2"), given("i2"), node("add", (0, 1))), (2, 1))
        self.assertEqual(share(graph), graph)

    def test_random_graphs(self):
        for seed in range(40):
            result = share(random_graph(seed, 40, ("add", "mul", "neg", "const", "sum")))
            computed = [one for one in result[0] if one[0] != "input"]
            self.assertEqual(len(set(computed)), len(computed))


class All(unittest.TestCase):
    def test_outputs_keep_their_values(self):
        changed = {}
        for seed in range(60):
            graph = random_graph(seed, 30)
            feeds = random_feeds(seed, graph)
            for function in (prune, fold_constants, share):
                result = function(graph)
                changed[function] = changed.get(function, 0) + (result != graph)
                self.assertTrue(is_tuples(result))
                check_graph(result)
                self.assertEqual(evaluate(result, feeds), evaluate(graph, feeds))
                self.assertEqual(
                    [one for one in result[0] if one[0] == "input"], [one for one in graph[0] if one[0] == "input"])
        self.assertTrue(all(changed.values()))

    def test_errors_of_the_graph(self):
        for function in (prune, fold_constants, share):
            with self.assertRaises(FormError):
                function(((given(""),), ()))
            with self.assertRaises(KindError):
                function(((("odd", (), ()),), (0,)))
            with self.assertRaises(TooLarge):
                function(((given(""),) * 401, (0,)))


if __name__ == "__main__":
    unittest.main()
