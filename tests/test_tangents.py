"""Points 301 and 302."""

import unittest

from making import const, given, is_tuples, node, random_feeds, random_graph, shape_of
from reference import node_slopes, node_values
from tensorcompiler.errors import FormError, KindError, RangeError, TensorError, TooLarge, TooWide
from tensorcompiler.graphs import check_graph, inputs_of
from tensorcompiler.kinds import KINDS
from tensorcompiler.meaning import evaluate
from tensorcompiler.tangents import tangent_graph

POLYNOMIAL = (
    "input", "const", "add", "sub", "mul", "neg", "sum", "dot", "order", "rename", "spread", "cut", "pad", "join",
    "window", "fold")


def zeros(word):
    count = 1
    for _, size in shape_of(word):
        count *= size
    return const(word, *[0] * count)


class Nodes(unittest.TestCase):
    # The inputs 0, 2, 4 have the directions 1, 3, 5, so the nodes of a slope stand from 7 on.
    INPUTS = (given("i4k3", -5, 7), given("k3j2", -2, 3), given("m2", 0, 9))

    def check(self, kind, args, info, *slope):
        """The nodes of the slope, behind the node itself, which has the index 6."""
        graph = (self.INPUTS + ((kind, args, info),), (3,))
        made, outs = tangent_graph(graph, -2, 1)
        inputs = ()
        for _, _, (shape, low, high) in self.INPUTS:
            inputs += (("input", (), (shape, low, high)), ("input", (), (shape, -2, 1)))
        moved = (kind, tuple(2 * arg for arg in args), info)
        with self.subTest(kind):
            self.assertEqual(made, inputs + (moved,) + slope)
            self.assertEqual(outs, (len(made) - 1,))
            domains = check_graph((made, outs))
            self.assertEqual(domains[-1][0], check_graph(graph)[3][0])

    def test_the_example(self):
        graph = ((("input", (), ((), -3, 3)), ("mul", (0, 0), ())), (1,))
        self.assertEqual(
            tangent_graph(graph, -1, 1)[0][3:], (('mul', (1, 0), ()), ('mul', (0, 1), ()), ('add', (3, 4), ())))

    def test_inputs_and_constants(self):
        made = tangent_graph(((given("i2", -3, 4), const("k2", 5, 6)), (1, 0, 1)), -7, 8)
        self.assertEqual(made, ((given("i2", -3, 4), given("i2", -7, 8), const("k2", 5, 6), zeros("k2")), (3, 1, 3)))

    def test_kinds_without_a_slope(self):
        self.check("less", (0, 1), (), zeros("i4k3j2"))
        self.check("equal", (1, 0), (), zeros("k3j2i4"))
        self.check("shift", (0,), (2,), zeros("i4k3"))

    def test_kinds_that_are_their_own_slope(self):
        self.check("add", (0, 1), (), node("add", (1, 3)))
        self.check("sub", (1, 0), (), node("sub", (3, 1)))
        self.check("join", (0, 0), ("i",), node("join", (1, 1), "i"))
        self.check("neg", (0,), (), node("neg", (1,)))
        self.check("sum", (0,), ("i",), node("sum", (1,), "i"))
        self.check("order", (0,), ("ki",), node("order", (1,), "ki"))
        self.check("rename", (0,), ("i", "z"), node("rename", (1,), "i", "z"))
        self.check("spread", (0,), ("z", 3), node("spread", (1,), "z", 3))
        self.check("cut", (0,), ("i", 1, 2), node("cut", (1,), "i", 1, 2))
        self.check("pad", (0,), ("i", 1, 2), node("pad", (1,), "i", 1, 2))
        self.check("window", (0,), ("i", "z", 2, 1), node("window", (1,), "i", "z", 2, 1))
        self.check("fold", (0,), ("i", "k", 1, 7), node("fold", (1,), "i", "k", 1, 7))

    def test_products(self):
        self.check("mul", (0, 1), (), node("mul", (1, 2)), node("mul", (0, 3)), node("add", (7, 8)))
        self.check("dot", (1, 0), ("k",), node("dot", (3, 0), "k"), node("dot", (2, 1), "k"), node("add", (7, 8)))

    def test_choices(self):
        self.check("max", (0, 1), (), node("less", (0, 2)), node("where", (7, 3, 1)))
        self.check("min", (0, 1), (), node("less", (0, 2)), node("where", (7, 1, 3)))
        self.check("clamp", (0,), (-1, 2), node("equal", (0, 6)), const("", 0), node("where", (7, 1, 8)))
        self.check("where", (2, 0, 1), (), node("where", (4, 1, 3)))
        self.check("gather", (0, 2), ("i",), node("gather", (1, 4), "i"))

    def test_peaks(self):
        self.check(
            "peak", (0,), ("k",),
            node("equal", (0, 6)), const("k3", 0, 1, 2), const("", 3), node("where", (7, 8, 9)), node("neg", (10,)),
            node("peak", (11,), "k"), node("neg", (12,)), node("equal", (8, 13)), const("", 0),
            node("where", (14, 1, 15)), node("sum", (16,), "k"))

    def test_several_nodes(self):
        nodes = (given("", -3, 3), const("", 2), node("mul", (0, 1)), node("neg", (2,)))
        made = tangent_graph((nodes, (3, 2)), 0, 1)
        self.assertEqual(made, ((
            given("", -3, 3), given("", 0, 1), const("", 2), const("", 0), node("mul", (0, 2)),
            node("mul", (1, 2)), node("mul", (0, 3)), node("add", (5, 6)), node("neg", (4,)), node("neg", (7,))), (9, 7)))


class Slopes(unittest.TestCase):
    def slopes(self, graph, seed):
        """The feeds, the direction and the slopes of the outputs by the graph of the slopes."""
        made = tangent_graph(graph, -2, 3)
        self.assertTrue(is_tuples(made))
        self.assertEqual(len(inputs_of(made)), 2 * len(inputs_of(graph)))
        fed = random_feeds(seed, made)
        return fed[0::2], fed[1::2], evaluate(made, fed)

    def test_against_the_definition(self):
        seen, done = set(), 0
        for seed in range(200):
            graph = random_graph(seed, 22)
            try:
                feeds, direction, found = self.slopes(graph, seed)
            except (TooWide, TooLarge):
                continue
            done += 1
            seen.update(one[0] for one in graph[0])
            shapes = [domain[0] for domain in check_graph(graph)]
            slopes = node_slopes(graph[0], shapes, feeds, direction)
            self.assertEqual(found, tuple(slopes[out] for out in graph[1]))
        self.assertGreater(done, 100)
        self.assertEqual(seen, set(KINDS))

    def test_coefficients_of_polynomials(self):
        far = 10 ** 60
        done = 0
        for seed in range(100):
            graph = random_graph(seed, 16, POLYNOMIAL)
            try:
                feeds, direction, found = self.slopes(graph, seed)
            except (TooWide, TooLarge):
                continue
            done += 1
            shapes = [domain[0] for domain in check_graph(graph)]
            moved = [[x + far * d for x, d in zip(feed, way)] for feed, way in zip(feeds, direction)]
            before = node_values(graph[0], shapes, feeds)
            behind = node_values(graph[0], shapes, moved)
            for out, slope in zip(graph[1], found):
                for one, two, three in zip(before[out], behind[out], slope):
                    # What is left of the difference, taken modulo the distance, is the coefficient of it.
                    coefficient = (two - one) // far % far
                    self.assertEqual(coefficient if coefficient < far // 2 else coefficient - far, three)
        self.assertGreater(done, 50)

    def test_the_first_of_several_greatest_counts(self):
        graph = ((given("i2k4", 0, 5), node("peak", (0,), "k")), (1,))
        made = tangent_graph(graph, 0, 9)
        self.assertEqual(evaluate(made, ((1, 5, 5, 0, 2, 2, 2, 2), (1, 2, 3, 4, 5, 6, 7, 8))), ((2, 5),))
        made = tangent_graph(((given("i2k4", 0, 5), node("peak", (0,), "i")), (1,)), 0, 9)
        self.assertEqual(evaluate(made, ((1, 5, 5, 0, 2, 5, 5, 1), (1, 2, 3, 4, 5, 6, 7, 8))), ((5, 2, 3, 8),))

    def test_ends_of_choices(self):
        graph = ((given("i3", -9, 9), given("i3", -9, 9), node("max", (0, 1)), node("min", (0, 1))), (2, 3))
        made = tangent_graph(graph, -9, 9)
        fed = ((1, 2, 3), (4, 5, 6), (2, 2, 2), (7, 8, 9))
        self.assertEqual(evaluate(made, fed), ((7, 5, 6), (4, 8, 9)))
        made = tangent_graph(((given("i5", -9, 9), node("clamp", (0,), -1, 2)), (1,)), -9, 9)
        self.assertEqual(evaluate(made, ((-2, -1, 0, 2, 3), (1, 2, 3, 4, 5))), ((0, 2, 3, 4, 0),))


class Errors(unittest.TestCase):
    def check(self, graph, low, high, error):
        with self.assertRaises(TensorError) as caught:
            tangent_graph(graph, low, high)
        self.assertIs(type(caught.exception), error)

    def test_errors_in_order(self):
        good = ((given(""), node("neg", (0,))), (1,))
        self.assertEqual(len(tangent_graph(good, 3, 3)[0]), 4)
        self.check(good, 1, 0, RangeError)
        self.check(((given(""),), ()), 1, 0, FormError)
        self.check(((("odd", (), ()),), (0,)), 1, 0, KindError)
        # The low end comes before what the result would raise.
        self.check(good, 2 ** 200 + 2, 2 ** 200 + 1, RangeError)
        self.check(good, 0, 2 ** 200 + 1, TooWide)
        self.check(good, -2 ** 200 - 1, 0, TooWide)

    def test_the_result_is_checked(self):
        large = ((given("", 0, 1),) + tuple(node("neg", (k,)) for k in range(200)), (0,))
        self.check(large, 0, 1, TooLarge)
        wide = ((given("", 0, 2 ** 100), node("mul", (0, 0))), (1,))
        self.check(wide, 0, 2 ** 100, TooWide)
        work = ((given("i16j16", 0, 1),) + tuple(node("neg", (k,)) for k in range(100)), (0,))
        self.check(work, 0, 1, TooLarge)
        fits = ((given("", 0, 1),) + tuple(node("neg", (k,)) for k in range(199)), (0,))
        self.assertEqual(len(tangent_graph(fits, 0, 1)[0]), 400)


if __name__ == "__main__":
    unittest.main()
