"""Point 303, and that weights times slopes are gradient times direction."""

import unittest

from making import const, given, is_tuples, node, random_feeds, random_graph, shape_of
from reference import node_slopes
from tensorcompiler.errors import FormError, KindError, RangeError, RankError, TensorError, TooLarge, TooWide
from tensorcompiler.gradients import gradient_graph
from tensorcompiler.graphs import check_graph, inputs_of
from tensorcompiler.kinds import KINDS
from tensorcompiler.meaning import evaluate


def zeros(word):
    count = 1
    for _, size in shape_of(word):
        count *= size
    return const(word, *[0] * count)


class Nodes(unittest.TestCase):
    INPUTS = (given("i4k3", -5, 7), given("k3j2", -2, 3), given("m2", 0, 9))

    def check(self, one, word, made, outs):
        """The nodes behind the node, which has the index 3, and its weight of the shape, which has the index 4."""
        with self.subTest(one):
            result = gradient_graph((self.INPUTS + (one,), (3,)), -2, 1)
            self.assertEqual(result, (self.INPUTS + (one, given(word, -2, 1)) + tuple(made), outs))

    def test_the_example(self):
        graph = ((("input", (), ((), -3, 3)), ("mul", (0, 0), ())), (1,))
        self.assertEqual(gradient_graph(graph, 1, 1), ((
            ('input', (), ((), -3, 3)), ('mul', (0, 0), ()), ('input', (), ((), 1, 1)), ('mul', (2, 0), ()),
            ('mul', (2, 0), ()), ('add', (3, 4), ())), (5,)))

    def test_kinds_that_send_nothing(self):
        rest = [zeros("i4k3"), zeros("k3j2"), zeros("m2")]
        self.check(node("less", (0, 1)), "i4k3j2", rest, (5, 6, 7))
        self.check(node("equal", (0, 1)), "i4k3j2", rest, (5, 6, 7))
        self.check(node("shift", (0,), 1), "i4k3", rest, (5, 6, 7))
        self.check(const("", 4), "", rest, (5, 6, 7))
        self.check(given("i2"), "i2", rest, (5, 6, 7, 4))

    def test_sums_and_differences(self):
        self.check(node("add", (0, 1)), "i4k3j2", [
            node("sum", (4,), "j"), node("sum", (4,), "i"), zeros("m2")], (5, 6, 7))
        # The letters of what is left are not in order.
        self.check(node("add", (1, 0)), "k3j2i4", [
            node("sum", (4,), "i"), node("sum", (4,), "j"), node("order", (6,), "ik"), zeros("m2")], (7, 5, 8))
        self.check(node("sub", (0, 1)), "i4k3j2", [
            node("sum", (4,), "j"), node("neg", (4,)), node("sum", (6,), "i"), zeros("m2")], (5, 7, 8))
        self.check(node("add", (0, 0)), "i4k3", [
            node("add", (4, 4)), zeros("k3j2"), zeros("m2")], (5, 6, 7))
        self.check(node("sub", (0, 0)), "i4k3", [
            node("neg", (4,)), node("add", (4, 5)), zeros("k3j2"), zeros("m2")], (6, 7, 8))
        # Several axes are summed in their order.
        self.check(node("add", (2, 0)), "m2i4k3", [
            node("sum", (4,), "i"), node("sum", (5,), "k"), node("sum", (4,), "m"), zeros("k3j2")], (7, 8, 6))
        self.check(node("neg", (1,)), "k3j2", [node("neg", (4,)), zeros("i4k3"), zeros("m2")], (6, 5, 7))

    def test_products(self):
        self.check(node("mul", (0, 1)), "i4k3j2", [
            node("mul", (4, 1)), node("sum", (5,), "j"), node("mul", (4, 0)), node("sum", (7,), "i"), zeros("m2")],
            (6, 8, 9))
        self.check(node("mul", (1, 0)), "k3j2i4", [
            node("mul", (4, 0)), node("sum", (5,), "i"), node("mul", (4, 1)), node("sum", (7,), "j"),
            node("order", (8,), "ik"), zeros("m2")], (9, 6, 10))

    def test_dots(self):
        # g has i and j; the part to a is a dot over j, the part to b one over i.
        self.check(node("dot", (0, 1), "k"), "i4j2", [
            node("dot", (4, 1), "j"), node("dot", (4, 0), "i"), node("order", (6,), "kj"), zeros("m2")], (5, 7, 8))
        self.check(node("dot", (1, 0), "k"), "j2i4", [
            node("dot", (4, 0), "i"), node("order", (5,), "kj"), node("dot", (4, 1), "j"), zeros("m2")], (7, 6, 8))
        # With both args the same, no axis is left over.
        self.check(node("dot", (0, 0), "k"), "i4", [
            node("mul", (4, 0)), node("mul", (4, 0)), node("add", (5, 6)), zeros("k3j2"), zeros("m2")], (7, 8, 9))

    def test_a_dot_with_two_axes_left_over(self):
        nodes = (given("k3"), given("a2k3b2"), node("dot", (0, 1), "k"))
        self.assertEqual(gradient_graph((nodes, (2,)), 0, 1), (nodes + (
            given("a2b2", 0, 1), node("dot", (3, 1), "a"), node("sum", (4,), "b"), node("mul", (3, 0)),
            node("order", (6,), "akb")), (5, 7)))

    def test_choices(self):
        self.check(node("max", (0, 1)), "i4k3j2", [
            node("less", (0, 1)), const("", 0), node("where", (5, 6, 4)), node("sum", (7,), "j"),
            node("where", (5, 4, 6)), node("sum", (9,), "i"), zeros("m2")], (8, 10, 11))
        self.check(node("min", (0, 1)), "i4k3j2", [
            node("less", (0, 1)), const("", 0), node("where", (5, 4, 6)), node("sum", (7,), "j"),
            node("where", (5, 6, 4)), node("sum", (9,), "i"), zeros("m2")], (8, 10, 11))
        self.check(node("clamp", (0,), -1, 2), "i4k3", [
            node("equal", (0, 3)), const("", 0), node("where", (5, 4, 6)), zeros("k3j2"), zeros("m2")], (7, 8, 9))
        self.check(node("where", (2, 0, 1)), "m2i4k3j2", [
            const("", 0), node("where", (2, 4, 5)), node("sum", (6,), "m"), node("sum", (7,), "j"),
            node("where", (2, 5, 4)), node("sum", (9,), "m"), node("sum", (10,), "i"), zeros("m2")], (8, 11, 12))

    def test_sums_along_an_axis(self):
        self.check(node("sum", (0,), "k"), "i4", [node("spread", (4,), "k", 3), zeros("k3j2"), zeros("m2")], (5, 6, 7))
        self.check(node("sum", (0,), "i"), "k3", [
            node("spread", (4,), "i", 4), node("order", (5,), "ik"), zeros("k3j2"), zeros("m2")], (6, 7, 8))

    def test_peaks(self):
        mask = [
            node("equal", (0, 3)), const("k3", 0, 1, 2), const("", 3), node("where", (5, 6, 7)), node("neg", (8,)),
            node("peak", (9,), "k"), node("neg", (10,)), node("equal", (6, 11))]
        self.check(node("peak", (0,), "k"), "i4", mask + [
            const("", 0), node("where", (12, 4, 13)), node("order", (14,), "ik"), zeros("k3j2"), zeros("m2")],
            (15, 16, 17))

    def test_moving_kinds(self):
        rest = [zeros("k3j2"), zeros("m2")]
        self.check(node("order", (0,), "ki"), "k3i4", [node("order", (4,), "ik")] + rest, (5, 6, 7))
        self.check(node("rename", (0,), "i", "z"), "z4k3", [node("rename", (4,), "z", "i")] + rest, (5, 6, 7))
        self.check(node("spread", (0,), "z", 5), "i4k3z5", [node("sum", (4,), "z")] + rest, (5, 6, 7))
        self.check(node("cut", (0,), "i", 1, 2), "i2k3", [node("pad", (4,), "i", 1, 1)] + rest, (5, 6, 7))
        self.check(node("pad", (0,), "i", 1, 2), "i7k3", [node("cut", (4,), "i", 1, 4)] + rest, (5, 6, 7))
        self.check(node("join", (0, 0), "i"), "i8k3", [
            node("cut", (4,), "i", 0, 4), node("cut", (4,), "i", 4, 4), node("add", (5, 6))] + rest, (7, 8, 9))
        nodes = (given("i2"), given("i3"), node("join", (0, 1), "i"))
        self.assertEqual(gradient_graph((nodes, (2,)), 0, 1), (nodes + (
            given("i5", 0, 1), node("cut", (3,), "i", 0, 2), node("cut", (3,), "i", 2, 3)), (4, 5)))

    def test_windows_and_folds(self):
        rest = [zeros("k3j2"), zeros("m2")]
        self.check(node("window", (0,), "i", "w", 2, 2), "i2w2k3", [node("fold", (4,), "i", "w", 2, 4)] + rest, (5, 6, 7))
        # The window over 9 with the width 3 and the stride 2 has 4 places, as many as the axis i.
        self.check(node("fold", (0,), "i", "k", 2, 9), "i9", [node("window", (4,), "i", "k", 3, 2)] + rest, (5, 6, 7))
        self.check(node("fold", (0,), "i", "k", 2, 10), "i10", [node("window", (4,), "i", "k", 3, 2)] + rest, (5, 6, 7))
        self.check(node("fold", (0,), "i", "k", 2, 11), "i11", [
            node("window", (4,), "i", "k", 3, 2), node("cut", (5,), "i", 0, 4)] + rest, (6, 7, 8))
        self.check(node("fold", (0,), "k", "i", 1, 6), "k6", [
            node("window", (4,), "k", "i", 4, 1), node("order", (5,), "ik")] + rest, (6, 7, 8))
        self.check(node("fold", (0,), "k", "i", 1, 16), "k16", [
            node("window", (4,), "k", "i", 4, 1), node("cut", (5,), "k", 0, 3), node("order", (6,), "ik")] + rest,
            (7, 8, 9))

    def test_gathers(self):
        self.check(node("gather", (0, 2), "i"), "m2k3", [
            const("i4", 0, 1, 2, 3), node("clamp", (2,), 0, 3), node("equal", (5, 6)), const("", 0),
            node("where", (7, 4, 8)), node("sum", (9,), "m"), zeros("k3j2"), zeros("m2")], (10, 11, 12))
        self.check(node("gather", (0, 2), "k"), "i4m2", [
            const("k3", 0, 1, 2), node("clamp", (2,), 0, 2), node("equal", (5, 6)), const("", 0),
            node("where", (7, 4, 8)), node("sum", (9,), "m"), node("order", (10,), "ik"), zeros("k3j2"), zeros("m2")],
            (11, 12, 13))

    def test_several_parts_and_outputs(self):
        nodes = (given(""), given("i2"), node("neg", (0,)), node("neg", (2,)), node("mul", (2, 1)))
        self.assertEqual(gradient_graph((nodes, (2, 4, 2, 0)), 0, 1), (nodes + (
            given("", 0, 1), given("i2", 0, 1), given("", 0, 1), given("", 0, 1),
            # The node 4: to the node 2, then to the node 1.
            node("mul", (6, 1)), node("sum", (9,), "i"), node("mul", (6, 2)),
            # The node 2 has the weights 5 and 7, then the part 10.
            node("add", (5, 7)), node("add", (12, 10)), node("neg", (13,)),
            # The node 0 has its weight, then the part 14.
            node("add", (8, 14))), (15, 11)))

    def test_an_input_that_is_an_output_twice(self):
        nodes = (given("i2"),)
        self.assertEqual(gradient_graph((nodes, (0, 0)), 3, 4), (
            nodes + (given("i2", 3, 4), given("i2", 3, 4), node("add", (1, 2))), (3,)))

    def test_totals_of_nodes_that_send_nothing(self):
        nodes = (const("", 2), given(""), node("mul", (0, 0)), node("mul", (2, 1)))
        self.assertEqual(gradient_graph((nodes, (3,)), 0, 1), (nodes + (
            given("", 0, 1), node("mul", (4, 1)), node("mul", (4, 2)), node("mul", (5, 0)), node("mul", (5, 0)),
            node("add", (7, 8))), (6,)))

    def test_inputs_that_no_output_needs(self):
        nodes = (given("i2"), given("k2"), node("neg", (1,)), given("j1"))
        self.assertEqual(gradient_graph((nodes, (1,)), 0, 1), (
            nodes + (given("k2", 0, 1), zeros("i2"), zeros("j1")), (5, 4, 6)))


class Meaning(unittest.TestCase):
    def test_weights_times_slopes_are_gradient_times_direction(self):
        seen, done = set(), 0
        for seed in range(300):
            graph = random_graph(seed, 18)
            try:
                made = gradient_graph(graph, -3, 2)
            except (TooLarge, TooWide):
                continue
            done += 1
            seen.update(one[0] for one in graph[0])
            self.assertTrue(is_tuples(made))
            fed = random_feeds(seed, made)
            many = len(inputs_of(graph))
            gradient = evaluate(made, fed)
            direction = random_feeds(seed + 1000, graph)
            domains = check_graph(graph)
            slopes = node_slopes(graph[0], [domain[0] for domain in domains], fed[:many], direction)
            left = sum(w * s for out, weight in zip(graph[1], fed[many:]) for w, s in zip(weight, slopes[out]))
            right = sum(g * d for part, way in zip(gradient, direction) for g, d in zip(part, way))
            self.assertEqual(left, right)
            for place, total in zip(inputs_of(graph), made[1]):
                self.assertEqual(check_graph(made)[total][0], domains[place][0])
        self.assertGreater(done, 150)
        self.assertEqual(seen, set(KINDS))


class Errors(unittest.TestCase):
    def check(self, graph, low, high, error):
        with self.assertRaises(TensorError) as caught:
            gradient_graph(graph, low, high)
        self.assertIs(type(caught.exception), error)

    def test_errors_in_order(self):
        good = ((given(""), node("neg", (0,))), (1,))
        self.assertEqual(len(gradient_graph(good, 3, 3)[0]), 4)
        self.check(good, 1, 0, RangeError)
        self.check(((given(""),), ()), 1, 0, FormError)
        self.check(((("odd", (), ()),), (0,)), 1, 0, KindError)
        self.check(good, 2 ** 200 + 2, 2 ** 200 + 1, RangeError)
        self.check(good, 0, 2 ** 200 + 1, TooWide)
        # Without inputs the result has no outputs.
        none = ((const("", 1),), (0,))
        self.check(none, 0, 1, FormError)
        self.check(none, 1, 0, RangeError)
        self.check(none, 0, 2 ** 200 + 1, TooWide)

    def test_the_result_is_checked(self):
        large = ((given("", 0, 1),) + tuple(node("neg", (k,)) for k in range(200)), (200,))
        self.check(large, 0, 1, TooLarge)
        wide = ((given("", 0, 2 ** 100), node("mul", (0, 0))), (1,))
        self.check(wide, 0, 2 ** 100, TooWide)
        # Behind the gather stands a where with more than 256 positions, then one with more than 4 axes.
        gather = ((given("i16j2", 0, 1), given("m16", 0, 1), node("gather", (0, 1), "i")), (2,))
        self.check(gather, 0, 1, TooLarge)
        gather = ((given("a2b2c2d2", 0, 1), given("e2", 0, 1), node("gather", (0, 1), "d")), (2,))
        self.check(gather, 0, 1, RankError)


if __name__ == "__main__":
    unittest.main()
