"""Points 401 and 402."""

import unittest

from making import const, given, is_tuples, node, random_feeds, random_graph
from tensorcompiler.errors import FormError, KindError, RuleError, TensorError, TooLarge, TooWide
from tensorcompiler.gradients import gradient_graph
from tensorcompiler.graphs import check_graph
from tensorcompiler.meaning import evaluate
from tensorcompiler.notation import read_graph
from tensorcompiler.rewriting import sites
from tensorcompiler.rule_rows import LEFT_ROWS, RIGHT_ROWS
from tensorcompiler.rules import RULES, apply_rule

# The nodes 0 to 6 of all graphs below.
INPUTS = (
    "input i2k3 -5 7", "input k3 -2 3", "input i2k3 0 4", "input . 8 9", "input k3i2 -1 1", "input k3j2 -3 3",
    "input j2 -2 2")

# A rule, the nodes from 7 on, the nodes that stand there instead, and what takes the place of the last one.
APPLIES = (
    ("add-swap", "add 0 2", "add 2 0", 7),
    ("add-swap", "add 3 0", "add 0 3", 7),
    ("add-left", "add 1 3; add 0 7", "add 1 3; add 0 1; add 8 3", 9),
    ("add-right", "add 0 1; add 7 3", "add 0 1; add 1 3; add 0 8", 9),
    ("mul-swap", "mul 0 2", "mul 2 0", 7),
    ("mul-left", "mul 1 3; mul 0 7", "mul 1 3; mul 0 1; mul 8 3", 9),
    ("mul-right", "mul 0 1; mul 7 3", "mul 0 1; mul 1 3; mul 0 8", 9),
    ("mul-over", "add 1 3; mul 0 7", "add 1 3; mul 0 1; mul 0 3; add 8 9", 10),
    ("mul-out", "mul 0 1; mul 0 3; add 7 8", "mul 0 1; mul 0 3; add 1 3; mul 0 9", 10),
    ("mul-out", "mul 0 1; add 7 7", "mul 0 1; add 1 1; mul 0 8", 9),
    ("sub-neg", "sub 0 1", "neg 1; add 0 7", 8),
    ("neg-sub", "neg 1; add 0 7", "neg 1; sub 0 1", 8),
    ("neg-neg", "neg 1; neg 7", "neg 1", 1),
    ("add-zero", "const k3 0 0 0; add 0 7", "const k3 0 0 0", 0),
    ("add-zero", "const k3 0 0 0; add 7 7", "const k3 0 0 0", 7),
    ("mul-one", "const . 1; mul 1 7", "const . 1", 1),
    ("mul-one", "const k3i2 1 1 1 1 1 1; mul 0 7", "const k3i2 1 1 1 1 1 1", 0),
    ("sum-add", "add 0 1; sum 7 k", "add 0 1; sum 0 k; sum 1 k; add 8 9", 10),
    ("sum-add", "add 0 0; sum 7 i", "add 0 0; sum 0 i; sum 0 i; add 8 9", 10),
    ("add-sum", "sum 0 k; sum 1 k; add 7 8", "sum 0 k; sum 1 k; add 0 1; sum 9 k", 10),
    ("add-sum", "sum 0 k; add 7 7", "sum 0 k; add 0 0; sum 8 k", 9),
    ("sum-dot", "mul 0 1; sum 7 k", "mul 0 1; dot 0 1 k", 8),
    ("dot-sum", "dot 0 1 k", "mul 0 1; sum 7 k", 8),
    ("sum-mul", "mul 3 1; sum 7 k", "mul 3 1; sum 1 k; mul 3 8", 9),
    ("sum-mul", "mul 0 5; sum 7 j", "mul 0 5; sum 5 j; mul 0 8", 9),
    ("mul-sum", "sum 5 j; mul 0 7", "sum 5 j; mul 0 5; sum 8 j", 9),
    ("dot-left", "dot 6 5 j; dot 7 0 k", "dot 6 5 j; dot 5 0 k; dot 6 8 j", 9),
    ("dot-right", "dot 5 0 k; dot 6 7 j", "dot 5 0 k; dot 6 5 j; dot 8 0 k", 9),
    ("order-order", "order 0 ki; order 7 ik", "order 0 ki; order 0 ik", 8),
    ("order-order", "order 0 ki; order 7 ki", "order 0 ki; order 0 ki", 8),
    ("order-none", "order 0 ik", "", 0),
    ("order-none", "order 3 .", "", 3),
    ("clamp-clamp", "clamp 0 -4 6; clamp 7 -2 9", "clamp 0 -4 6; clamp 0 -2 6", 8),
    ("clamp-clamp", "clamp 0 -4 6; clamp 7 -9 3", "clamp 0 -4 6; clamp 0 -4 3", 8),
    ("clamp-clamp", "clamp 0 -4 -3; clamp 7 2 9", "clamp 0 -4 -3; clamp 0 2 2", 8),
    ("clamp-clamp", "clamp 0 5 6; clamp 7 -2 3", "clamp 0 5 6; clamp 0 3 3", 8),
    ("clamp-none", "clamp 0 -5 7", "", 0),
    ("clamp-none", "clamp 0 -99 99", "", 0),
    ("max-same", "max 0 0", "", 0),
    ("max-left", "clamp 0 3 5; max 7 1", "clamp 0 3 5", 7),
    ("max-left", "const . 9; max 7 3", "const . 9", 7),
    ("less-known", "less 0 3", "const i2k3 1 1 1 1 1 1", 7),
    ("less-known", "less 3 1", "const k3 0 0 0", 7),
    ("less-known", "const . 7; less 7 3", "const . 7; const . 1", 8),
    ("less-known", "const . 9; less 7 3", "const . 9; const . 0", 8),
    ("less-known", "const . 7; less 7 0", "const . 7; const i2k3 0 0 0 0 0 0", 8),
    ("where-same", "where 3 0 0", "", 0),
    ("where-same", "where 1 4 4", "", 4),
    ("cut-pad", "pad 0 k 2 4; cut 7 k 2 3", "pad 0 k 2 4", 0),
    ("cut-pad", "pad 0 i 0 0; cut 7 i 0 2", "pad 0 i 0 0", 0),
)

# A rule, and nodes from 7 on, at the last of which the left side is not as it should be.
OTHER_LEFT_SIDES = (
    ("add-swap", "sub 0 2"), ("add-swap", "mul 0 2"), ("add-left", "add 0 1; add 7 3"), ("add-left", "sub 1 3; add 0 7"),
    ("add-left", "mul 1 3; add 0 7"), ("add-left", "add 1 3; mul 0 7"), ("add-left", "add 1 3; sub 0 7"),
    ("add-right", "add 0 1; add 3 7"), ("add-right", "mul 0 1; add 7 3"), ("add-right", "add 0 1; mul 7 3"),
    ("mul-swap", "add 0 2"), ("mul-left", "mul 0 1; mul 7 3"), ("mul-left", "add 1 3; mul 0 7"),
    ("mul-left", "mul 1 3; add 0 7"), ("mul-right", "mul 0 1; mul 3 7"), ("mul-right", "add 0 1; mul 7 3"),
    ("mul-right", "mul 0 1; add 7 3"), ("mul-over", "add 1 3; mul 7 0"), ("mul-over", "mul 1 3; mul 0 7"),
    ("mul-over", "sub 1 3; mul 0 7"), ("mul-over", "add 1 3; add 0 7"), ("mul-out", "mul 0 1; mul 3 0; add 7 8"),
    ("mul-out", "mul 0 1; mul 2 1; add 7 8"), ("mul-out", "mul 0 1; mul 0 3; sub 7 8"),
    ("mul-out", "mul 0 1; add 0 3; add 7 8"), ("mul-out", "add 0 1; mul 0 3; add 7 8"), ("sub-neg", "add 0 1"),
    ("neg-sub", "neg 0; add 7 1"), ("neg-sub", "neg 1; sub 0 7"), ("neg-sub", "shift 1 1; add 0 7"), ("neg-neg", "neg 0"),
    ("neg-neg", "shift 0 1; neg 7"), ("neg-neg", "neg 0; shift 7 1"), ("add-zero", "const i2k3 0 0 0 0 0 0; add 7 0"),
    ("add-zero", "const k3 0 0 0; sub 0 7"), ("add-zero", "input k3 0 0; add 0 7"),
    ("mul-one", "const i2k3 1 1 1 1 1 1; mul 7 0"), ("mul-one", "const k3 1 1 1; add 0 7"),
    ("mul-one", "input . 1 1; mul 0 7"), ("sum-add", "sub 0 1; sum 7 k"), ("sum-add", "mul 0 1; sum 7 k"),
    ("sum-add", "add 0 1; peak 7 k"), ("add-sum", "sum 0 k; sum 0 i; add 7 8"), ("add-sum", "sum 0 k; peak 1 k; add 7 8"),
    ("add-sum", "peak 0 k; sum 1 k; add 7 8"), ("add-sum", "sum 0 k; sum 1 k; sub 7 8"), ("add-sum", "sum 0 k; add 7 3"),
    ("sum-dot", "add 0 1; sum 7 k"), ("sum-dot", "mul 0 1; peak 7 k"), ("sum-dot", "dot 0 5 k; sum 7 i"),
    ("dot-sum", "mul 0 1; sum 7 k"), ("dot-sum", "mul 0 1"), ("sum-mul", "add 3 1; sum 7 k"),
    ("sum-mul", "mul 3 1; peak 7 k"), ("mul-sum", "sum 5 j; mul 7 0"), ("mul-sum", "peak 5 j; mul 0 7"),
    ("mul-sum", "sum 5 j; add 0 7"), ("dot-left", "dot 5 0 k; dot 6 7 j"), ("dot-left", "mul 6 5; dot 7 0 k"),
    ("dot-left", "dot 6 5 j; mul 7 0"), ("dot-right", "dot 6 5 j; dot 7 0 k"), ("dot-right", "mul 5 3; dot 6 7 j"),
    ("dot-right", "dot 5 0 k; mul 6 7"), ("order-order", "order 0 ki"), ("order-order", "order 0 ki; neg 7"),
    ("order-order", "neg 0; order 7 ki"), ("order-none", "neg 0"), ("clamp-clamp", "clamp 0 -1 1"),
    ("clamp-clamp", "clamp 0 -1 1; neg 7"), ("clamp-clamp", "neg 0; clamp 7 -1 1"), ("clamp-none", "neg 0"),
    ("max-same", "max 0 2"), ("max-same", "min 0 0"), ("max-left", "min 3 3"), ("less-known", "equal 0 3"),
    ("where-same", "where 3 0 2"), ("where-same", "where 0 0 2"), ("cut-pad", "neg 0; cut 7 k 0 3"),
    ("cut-pad", "pad 0 k 2 4; pad 7 k 2 3"), ("cut-pad", "pad 0 k 2 4; cut 7 k 1 3"), ("cut-pad", "pad 0 k 0 0; cut 7 i 0 2"),
    ("cut-pad", "pad 0 i 0 1; cut 7 k 0 3"),
)

# The same where the left side is right, but the further condition does not hold.
OTHER_CONDITIONS = (
    ("add-zero", "const k3 0 1 0; add 0 7"), ("add-zero", "const k3 0 0 -1; add 0 7"),
    ("add-zero", "const k3 1 1 1; add 0 7"), ("mul-one", "const k3 1 1 0; mul 0 7"), ("mul-one", "const k3 1 2 1; mul 0 7"),
    ("mul-one", "const . -1; mul 0 7"), ("mul-one", "const k3 0 0 0; mul 0 7"), ("sum-add", "add 3 0; sum 7 k"),
    ("sum-add", "add 0 3; sum 7 k"), ("sum-add", "add 0 1; sum 7 i"), ("sum-dot", "mul 3 0; sum 7 k"),
    ("sum-dot", "mul 0 3; sum 7 k"), ("sum-dot", "mul 0 5; sum 7 j"), ("sum-mul", "mul 0 1; sum 7 k"),
    ("sum-mul", "mul 1 3; sum 7 k"), ("mul-sum", "sum 1 k; mul 0 7"), ("mul-sum", "sum 5 j; mul 6 7"),
    # x has the axis k, then z has the axis j.
    ("dot-left", "dot 5 5 j; dot 7 0 k"), ("dot-left", "dot 6 5 j; dot 7 5 k"), ("dot-right", "dot 5 0 k; dot 5 7 j"),
    ("dot-right", "dot 5 5 k; dot 6 7 j"),
    ("clamp-none", "clamp 0 -4 7"), ("clamp-none", "clamp 0 -5 6"), ("max-left", "clamp 0 2 5; max 7 1"),
    ("max-left", "const . 8; max 7 3"), ("max-left", "max 0 1"), ("less-known", "less 0 1"),
    ("less-known", "const . 8; less 7 3"), ("less-known", "const . 6; less 7 0"), ("less-known", "const . -4; less 7 0"),
    ("cut-pad", "pad 0 k 2 4; cut 7 k 2 2"), ("cut-pad", "pad 0 k 2 4; cut 7 k 2 4"),
)

# The same where only the shape would change.
OTHER_SHAPES = (
    ("add-swap", "add 0 4"), ("add-swap", "add 1 6"), ("mul-swap", "mul 0 4"), ("add-zero", "const z1 0; add 0 7"),
    ("add-zero", "const k3 0 0 0; add 3 7"), ("mul-one", "const z2 1 1; mul 0 7"), ("mul-one", "const k3 1 1 1; mul 3 7"),
    ("order-none", "order 0 ki"), ("max-left", "max 3 0"), ("max-left", "const . 7; max 7 1"), ("where-same", "where 4 0 0"),
    ("where-same", "where 6 0 0"), ("where-same", "where 0 3 3"),
)

WIDEST = 2 ** 200


def lines_of(text):
    return list(INPUTS) + [line for line in text.split("; ") if line]


def graph_with(lines, place):
    """A graph in which what stands at the place is an arg and an output."""
    many = len(lines)
    return read_graph("\n".join(lines + [f"neg {place}", f"mul {many} {place}", f"out {place} {many} 0 {place}"]) + "\n")


class Rules(unittest.TestCase):
    def refuse(self, graph, rule, place):
        with self.subTest((rule, graph[0][-3:])):
            with self.assertRaises(TensorError) as caught:
                apply_rule(graph, rule, place)
            self.assertIs(type(caught.exception), RuleError)

    def test_the_names(self):
        self.assertEqual(RULES, (
            "add-swap", "add-left", "add-right", "mul-swap", "mul-left", "mul-right", "mul-over", "mul-out", "sub-neg",
            "neg-sub", "neg-neg", "add-zero", "mul-one", "sum-add", "add-sum", "sum-dot", "dot-sum", "sum-mul",
            "mul-sum", "dot-left", "dot-right", "order-order", "order-none", "clamp-clamp", "clamp-none", "max-same",
            "max-left", "less-known", "where-same", "cut-pad"))
        self.assertEqual(tuple(LEFT_ROWS), RULES)
        self.assertEqual(tuple(RIGHT_ROWS), RULES)

    def test_the_example(self):
        nodes = (("input", (), ((), -3, 3)), ("neg", (0,), ()), ("neg", (1,), ()), ("mul", (2, 2), ()))
        self.assertEqual(apply_rule((nodes, (3,)), "neg-neg", 2), (
            (('input', (), ((), -3, 3)), ('neg', (0,), ()), ('mul', (0, 0), ())), (2,)))

    def test_each_rule(self):
        self.assertEqual({row[0] for row in APPLIES}, set(RULES))
        for rule, before, behind, place in APPLIES:
            with self.subTest((rule, before)):
                lines = lines_of(before)
                graph = graph_with(lines, len(lines) - 1)
                result = apply_rule(graph, rule, len(lines) - 1)
                self.assertEqual(result, graph_with(lines_of(behind), place))
                self.assertTrue(is_tuples(result))
                for seed in range(5):
                    feeds = random_feeds(seed, graph)
                    self.assertEqual(evaluate(result, feeds), evaluate(graph, feeds))

    def test_other_left_sides(self):
        for rule, before in OTHER_LEFT_SIDES:
            lines = lines_of(before)
            self.refuse(graph_with(lines, len(lines) - 1), rule, len(lines) - 1)
        for rule in RULES:
            self.refuse(graph_with(lines_of("const . 1"), 7), rule, 0)
            self.refuse(graph_with(lines_of("const . 1"), 7), rule, 7)

    def test_other_conditions(self):
        for rule, before in OTHER_CONDITIONS:
            lines = lines_of(before)
            self.refuse(graph_with(lines, len(lines) - 1), rule, len(lines) - 1)

    def test_other_shapes(self):
        for rule, before in OTHER_SHAPES:
            lines = lines_of(before)
            # A node that is only an output, so that the graph would still be valid.
            self.refuse(read_graph("\n".join(lines + [f"out {len(lines) - 1}"]) + "\n"), rule, len(lines) - 1)

    def test_a_result_that_is_no_valid_graph(self):
        # The sum of the first two is too wide.
        nodes = (given("", 0, WIDEST), given("", 0, 1), const("", -1), node("add", (1, 2)), node("add", (0, 3)))
        self.refuse((nodes, (4,)), "add-left", 4)
        # The product has too many elements, then too many axes.
        nodes = (given("i16k16", 0, 1), given("k16j16", 0, 1), node("dot", (0, 1), "k"))
        self.refuse((nodes, (2,)), "dot-sum", 2)
        nodes = (given("a1b1c1d1", 0, 1), given("d1k2", 0, 1), node("sum", (1,), "k"), node("mul", (0, 2)))
        self.refuse((nodes, (3,)), "mul-sum", 3)
        # The axis has two sizes.
        nodes = (given("i2k3"), given("k2"), node("sum", (0,), "k"), node("sum", (1,), "k"), node("add", (2, 3)))
        self.refuse((nodes, (4,)), "add-sum", 4)

    def test_results_at_the_limits(self):
        chain = tuple(node("neg", (k,)) for k in range(397))
        nodes = (given("", 0, 1),) + chain + (node("sub", (0, 0)),)
        self.assertEqual(len(apply_rule((nodes, (0,)), "sub-neg", 398)[0]), 400)
        nodes = (given("", 0, 1), given("", 0, 1)) + chain + (node("sub", (0, 0)),)
        self.assertEqual(len(nodes), 400)
        self.refuse((nodes, (0,)), "sub-neg", 399)
        self.assertEqual(len(apply_rule((nodes, (0,)), "neg-neg", 4)[0]), 399)
        # Each node has the work 256: with 195 of them there is room for no further one.
        for many, fits in ((193, True), (194, False)):
            nodes = (given("i16j16", 0, 1),) + tuple(node("neg", (0,)) for _ in range(many)) + (node("sub", (0, 0)),)
            if fits:
                self.assertEqual(len(apply_rule((nodes, (0,)), "sub-neg", many + 1)[0]), many + 3)
            else:
                self.refuse((nodes, (0,)), "sub-neg", many + 1)

    def test_unknown_rules_and_nodes(self):
        graph = ((given(""), node("neg", (0,)), node("neg", (1,))), (2,))
        for rule in ("", "neg", "Neg-neg", "neg-neg ", "add"):
            self.refuse(graph, rule, 2)
        for place in (-1, -3, 3, 4, 99):
            self.refuse(graph, "neg-neg", place)
        self.assertEqual(apply_rule(graph, "neg-neg", 2), (graph[0][:2], (0,)))

    def test_nodes_that_nothing_uses_stay(self):
        graph = ((given(""), node("neg", (0,)), node("neg", (1,)), node("neg", (1,)), node("add", (3, 2))), (4, 3))
        self.assertEqual(apply_rule(graph, "neg-neg", 3), (
            (given(""), node("neg", (0,)), node("neg", (1,)), node("add", (0, 2))), (3, 0)))

    def test_errors_of_the_graph_come_first(self):
        for rule in ("neg-neg", "odd"):
            for error, graph in (
                    (FormError, ((given(""),), ())), (KindError, ((("odd", (), ()),), (0,))),
                    (TooWide, ((given("", 0, WIDEST + 1),), (0,))), (TooLarge, ((given(""),) * 401, (0,)))):
                with self.assertRaises(error):
                    apply_rule(graph, rule, -1)


class Meaning(unittest.TestCase):
    KINDS = (
        "add", "sub", "mul", "neg", "sum", "dot", "order", "add", "mul", "neg", "sum", "clamp", "max", "less", "where",
        "cut", "pad", "const")
    POLYNOMIAL = ("add", "sub", "mul", "neg", "sum", "dot", "order", "add", "mul", "neg", "sum", "cut", "pad", "const")

    def test_outputs_keep_their_values(self):
        done = {}
        for seed in range(60):
            graph = random_graph(seed, 30, self.KINDS)
            feeds = random_feeds(seed, graph)
            values = evaluate(graph, feeds)
            for rule in RULES:
                for place in sites(graph, rule):
                    done[rule] = done.get(rule, 0) + 1
                    result = apply_rule(graph, rule, place)
                    check_graph(result)
                    self.assertEqual(evaluate(result, feeds), values, (rule, place))
        self.assertGreater(len(done), 15)

    def test_gradients_of_polynomials_stay(self):
        done = 0
        for seed in range(40):
            graph = random_graph(seed, 14, self.POLYNOMIAL)
            try:
                made = gradient_graph(graph, -2, 2)
            except TensorError:
                continue
            fed = random_feeds(seed, made)
            for rule in RULES:
                for place in sites(graph, rule):
                    try:
                        other = gradient_graph(apply_rule(graph, rule, place), -2, 2)
                    except (TooLarge, TooWide):
                        continue
                    done += 1
                    self.assertEqual(evaluate(other, fed), evaluate(made, fed), (rule, place))
        self.assertGreater(done, 50)


if __name__ == "__main__":
    unittest.main()
