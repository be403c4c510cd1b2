"""Point 403."""

import unittest

from making import const, given, is_tuples, node, random_feeds, random_graph
from tensorcompiler.errors import FormError, KindError, RuleError
from tensorcompiler.meaning import evaluate
from tensorcompiler.rewriting import replay, sites
from tensorcompiler.rules import RULES, apply_rule

NEGATED = ((given("i2"),) + tuple(node("neg", (k,)) for k in range(5)), (5, 2))


class Sites(unittest.TestCase):
    def test_in_ascending_order(self):
        self.assertEqual(sites(NEGATED, "neg-neg"), (2, 3, 4, 5))
        self.assertEqual(sites(NEGATED, "add-swap"), ())
        nodes = (given("i2k3"), given("k3i2"), node("add", (0, 0)), node("add", (0, 1)), node("add", (2, 0)))
        self.assertEqual(sites((nodes, (4,)), "add-swap"), (2, 4))

    def test_exactly_where_the_rule_can_be_applied(self):
        for seed in range(15):
            graph = random_graph(seed, 25)
            for rule in RULES:
                found = []
                for place in range(-1, len(graph[0]) + 1):
                    try:
                        apply_rule(graph, rule, place)
                    except RuleError:
                        continue
                    found.append(place)
                self.assertEqual(sites(graph, rule), tuple(found))

    def test_errors(self):
        for rule in ("", "neg", "NEG-NEG"):
            with self.assertRaises(RuleError):
                sites(NEGATED, rule)
        for rule in ("neg-neg", "odd"):
            with self.assertRaises(FormError):
                sites((NEGATED[0], ()), rule)
            with self.assertRaises(KindError):
                sites(((("odd", (), ()),), (0,)), rule)


class Replays(unittest.TestCase):
    def test_no_steps(self):
        self.assertEqual(replay(NEGATED, ()), NEGATED)

    def test_each_step_is_applied_to_the_result_of_the_one_before(self):
        steps = (("neg-neg", 5), ("neg-neg", 3), ("neg-neg", 2))
        graph = NEGATED
        for rule, place in steps:
            graph = apply_rule(graph, rule, place)
        self.assertEqual(replay(NEGATED, steps), graph)
        self.assertTrue(is_tuples(graph))
        self.assertEqual(graph, ((given("i2"), node("neg", (0,)), node("neg", (1,))), (1, 0)))

    def test_longer_rows_of_steps(self):
        nodes = (given("i2k3", -4, 4), given("i2k3", -4, 4), given("k3", -3, 3), node("add", (0, 1)), node("mul", (3, 2)),
                 node("sum", (4,), "k"))
        steps = (("mul-swap", 4),)
        with self.assertRaises(RuleError):
            replay((nodes, (5,)), steps)
        steps = (("sum-dot", 5), ("dot-sum", 5), ("sum-dot", 6))
        result = replay((nodes, (5,)), steps)
        self.assertEqual(result, (nodes[:5] + (node("mul", (3, 2)), node("dot", (3, 2), "k")), (6,)))
        feeds = random_feeds(1, result)
        self.assertEqual(evaluate(result, feeds), evaluate((nodes, (5,)), feeds))

    def test_steps_that_cannot_be_applied(self):
        for steps in (
                (("neg-neg", 1),), (("neg-neg", 6),), (("neg-neg", -1),), (("odd", 2),), (("neg-neg", 5), ("neg-neg", 5)),
                (("neg-neg", 5), ("neg-neg", 4), ("odd", 2))):
            with self.assertRaises(RuleError):
                replay(NEGATED, steps)

    def test_errors_of_the_graph_come_first(self):
        for steps in ((), (("odd", 2),)):
            with self.assertRaises(FormError):
                replay((NEGATED[0], ()), steps)
        with self.assertRaises(KindError):
            replay(((const("", 1), ("odd", (), ())), (0,)), ())


if __name__ == "__main__":
    unittest.main()
