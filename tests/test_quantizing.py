"""Points 1006 and 1007."""

import unittest
from fractions import Fraction
from random import Random

from making import given, is_tuples, node, random_feeds
from models import drawn_table, ends, near, plain_quantized, random_model
from tensorcompiler.errors import FeedError, RangeError, TableError, TensorError, TooLarge
from tensorcompiler.graphs import check_graph
from tensorcompiler.notation import read_graph
from tensorcompiler.quantizing import decode_outputs, encode_feeds, quantize_graph
from tensorcompiler.scales import choose_table

ONE = ((1, 1), 0)


def text(*lines):
    return read_graph("".join(line + "\n" for line in lines))


class Base(unittest.TestCase):
    def written(self, graph, table, bits, *lines):
        """The quantized graph has this text."""
        result = quantize_graph(graph, table, bits)
        self.assertEqual(result, text(*lines))
        self.assertEqual(result, plain_quantized(graph, table, bits))
        self.assertTrue(is_tuples(result))


class Lines(Base):
    A = "input k2 -9 9"

    def test_input_and_const(self):
        graph = text("input k2 -9 9", "const i2 3 -4", "out 1 0 1")
        self.written(graph, (ONE, ONE), 8, "input k2 -128 127", "const i2 3 -4", "out 1 0 1")
        self.written(graph, (((3, 1), 5), ((2, 5), -1)), 8, "input k2 -128 127", "const i2 7 -11", "out 1 0 1")
        self.written(text("input . 0 0", "out 0"), (((1, 1), 3),), 3, "input . -4 3", "out 0")

    def test_moving(self):
        for line in ("order 0 k", "rename 0 k z", "spread 0 z 2", "cut 0 k 1 1", "window 0 k z 2 1"):
            for pair in (ONE, ((2, 3), -7)):
                self.written(text(self.A, line, "out 1"), (pair, pair), 8, "input k2 -128 127", line, "out 1")

    def test_pad(self):
        graph = text(self.A, "pad 0 k 1 2", "neg 1", "out 1")
        self.written(graph, (ONE, ONE, ONE), 8, "input k2 -128 127", "pad 0 k 1 2", "neg 1", "clamp 2 -128 127", "out 1")
        pair = ((1, 1), 6)
        self.written(graph, (pair, pair, ((1, 1), -1)), 8, "input k2 -128 127", "const . 6", "sub 0 1", "pad 2 k 1 2", "const . 6", "add 3 4",
                     "const . 6", "sub 5 6", "neg 7", "const . -1", "add 8 9", "clamp 10 -128 127", "out 5")

    def test_two_args_with_a_factor_each(self):
        for kind in ("add", "sub", "max", "min"):
            graph = text(self.A, "input . -3 3", f"{kind} 0 1", "out 2")
            self.written(graph, (ONE, ONE, ONE), 6, "input k2 -32 31", "input . -32 31", f"{kind} 0 1", "clamp 2 -32 31", "out 3")
            table = (((2, 1), 5), ((1, 2), -3), ((3, 1), 1))
            self.written(
                graph, table, 6, "input k2 -32 31", "input . -32 31",
                # Two thirds and a sixth.
                "const . 5", "sub 0 2", "const . 43691", "mul 3 4", "shift 5 16",
                "const . -3", "sub 1 7", "const . 43691", "mul 8 9", "shift 10 18",
                f"{kind} 6 11", "const . 1", "add 12 13", "clamp 14 -32 31", "out 15")
            # Only one of the zeros, only one of the factors.
            self.written(graph, (((1, 1), 5), ((1, 2), 0), ((1, 1), 0)), 6, "input k2 -32 31", "input . -32 31", "const . 5", "sub 0 2",
                         "const . 32768", "mul 1 4", "shift 5 16", f"{kind} 3 6", "clamp 7 -32 31", "out 8")
            self.written(graph, (((1, 2), 0), ((1, 1), 5), ((1, 1), 0)), 6, "input k2 -32 31", "input . -32 31", "const . 32768",
                         "mul 0 2", "shift 3 16", "const . 5", "sub 1 5", f"{kind} 4 6", "clamp 7 -32 31", "out 8")
        graph = text(self.A, "join 0 0 k", "out 1")
        self.written(graph, (ONE, ((2, 1), 4)), 6, "input k2 -32 31", "const . 32768", "mul 0 1", "shift 2 16", "const . 32768", "mul 0 4",
                     "shift 5 16", "join 3 6 k", "const . 4", "add 7 8", "clamp 9 -32 31", "out 10")

    def test_neg_and_sum(self):
        for line in ("neg", "sum"):
            rest = " k" if line == "sum" else ""
            graph = text(self.A, f"{line} 0{rest}", "out 1")
            self.written(graph, (ONE, ONE), 8, "input k2 -128 127", f"{line} 0{rest}", "clamp 1 -128 127", "out 2")
            self.written(graph, (((1, 1), -2), ((3, 1), 7)), 8, "input k2 -128 127", "const . -2", "sub 0 1", f"{line} 2{rest}",
                         "const . 43691", "mul 3 4", "shift 5 17", "const . 7", "add 6 7", "clamp 8 -128 127", "out 9")

    def test_mul_and_dot(self):
        for kind in ("mul", "dot"):
            rest = " k" if kind == "dot" else ""
            graph = text(self.A, "input k2 -3 3", f"{kind} 0 1{rest}", "out 2 0")
            self.written(graph, (ONE, ONE, ONE), 8, "input k2 -128 127", "input k2 -128 127", f"{kind} 0 1{rest}", "clamp 2 -128 127", "out 3 0")
            self.written(graph, (((1, 2), 3), ((4, 1), -3), ((1, 1), 9)), 8, "input k2 -128 127", "input k2 -128 127", "const . 3", "sub 0 2",
                         "const . -3", "sub 1 4", f"{kind} 3 5{rest}", "const . 32768", "mul 6 7", "shift 8 14", "const . 9", "add 9 10",
                         "clamp 11 -128 127", "out 12 0")
            # The factors 1/2 and 2 make 1.
            self.written(graph, (((1, 2), 0), ((2, 1), 0), ((1, 1), 0)), 8, "input k2 -128 127", "input k2 -128 127", f"{kind} 0 1{rest}",
                         "clamp 2 -128 127", "out 3 0")

    def test_a_factor_whose_multiplier_is_one(self):
        # The factor differs from 1 by less than a multiplier can say.
        table = (((10 ** 9, 10 ** 9 - 1), 0), ONE)
        self.written(text(self.A, "neg 0", "out 1"), table, 8, "input k2 -128 127", "neg 0", "clamp 1 -128 127", "out 2")

    def test_both_args_the_same_node(self):
        for kind in ("add", "max", "mul"):
            graph = text(self.A, f"{kind} 0 0", "out 1")
            lines = {"mul": ("const . 5", "sub 0 1", "const . 5", "sub 0 3", "mul 2 4", "const . 32768", "mul 5 6", "shift 7 16"),
                     "other": ("const . 5", "sub 0 1", "const . 32768", "mul 2 3", "shift 4 16", "const . 5", "sub 0 6", "const . 32768",
                               "mul 7 8", "shift 9 16", f"{kind} 5 10")}
            middle = lines["mul" if kind == "mul" else "other"]
            self.written(graph, (((1, 1), 5), ((2, 1), 0)), 8, "input k2 -128 127", *middle, f"clamp {len(middle)} -128 127", f"out {len(middle) + 1}")

    def test_drawn(self):
        for seed in range(150):
            random = Random(seed)
            graph, bits = random_model(seed, 10), random.randint(3, 12)
            table = drawn_table(seed, graph, bits) if seed % 2 else choose_table(graph, bits)
            try:
                result = quantize_graph(graph, table, bits)
            except TensorError as error:
                self.assertIsInstance(error, TableError)
                continue
            self.assertEqual(result, plain_quantized(graph, table, bits))
            check_graph(result)
            self.assertEqual([one[2][0] for one in result[0] if one[0] == "input"], [one[2][0] for one in graph[0] if one[0] == "input"])


class Errors(Base):
    def test_multipliers(self):
        graph = text("input k2 -9 9", "neg 0", "out 0")
        for table in ((ONE, ((2 ** 32, 1), 0)), (((2 ** 20, 1), 0), ((1, 7), 0))):
            with self.assertRaises(TableError):
                quantize_graph(graph, table, 12)
        graph = text("input k2 -1 1", "mul 0 0", "sum 1 k", "out 0")
        quantize_graph(graph, (((2 ** 7, 1), 0), ((2 ** 0, 1), 0), ONE), 8)
        with self.assertRaises(TableError):
            quantize_graph(graph, (((2 ** 8, 1), 0), ONE, ONE), 8)
        # Nodes without a multiplier can have any scales.
        graph = text("input k2 0 0", "const . 0", "spread 0 z 2", "out 2")
        quantize_graph(graph, (((1, 2 ** 40), 0), ((2 ** 40, 1), 0), ((1, 2 ** 40), 0)), 8)

    def test_the_result_is_checked_last(self):
        rows = ["input . -1 1"] + [f"neg {place}" for place in range(100)]
        graph = text(*rows, "out 100")
        table = tuple((((1, 1 + place % 2), 1) for place in range(101)))
        # Each negation has seven nodes, with a clamp and a multiplication.
        with self.assertRaises(TooLarge):
            quantize_graph(graph, table, 8)
        with self.assertRaises(TableError):
            quantize_graph(graph, table[:-1] + (((2 ** 40, 1), 0),), 8)
        with self.assertRaises(TableError):
            quantize_graph(graph, table[:-1], 8)
        # The work, too: a model with just less than 50000.
        nodes = (given("i16k16", 0, 1),) + tuple(node("neg", (place,)) for place in range(190))
        with self.assertRaises(TooLarge):
            quantize_graph((nodes, (190,)), (((1, 1), 1),) * 191, 8)

    def test_arguments_stay(self):
        graph, table = text("input k2 -9 9", "neg 0", "out 1"), (ONE, ((2, 1), 4))
        quantize_graph(graph, table, 8)
        self.assertEqual((graph, table), (text("input k2 -9 9", "neg 0", "out 1"), (ONE, ((2, 1), 4))))


class Feeds(unittest.TestCase):
    GRAPH = text("input k2 -9 9", "const . 3", "input . 0 5", "add 0 2", "out 3 2 3")
    TABLE = (((1, 2), 4), ((1, 1), 0), ((1, 6), -12), ((2, 1), 1))

    def test_encode(self):
        self.assertEqual(encode_feeds(self.GRAPH, self.TABLE, 7, ((-9, 9), (5,))), ((-14, 22), (18,)))
        self.assertEqual(encode_feeds(self.GRAPH, self.TABLE, 7, ((0, 1), (0,))), ((4, 6), (-12,)))
        self.assertTrue(is_tuples(encode_feeds(self.GRAPH, self.TABLE, 7, ((0, 1), (0,)))))
        graph = text("input k2 -9 9", "out 0")
        # Halves are rounded up.
        self.assertEqual(encode_feeds(graph, (((2, 1), 0),), 7, ((3, -3),)), ((2, -1),))
        self.assertEqual(encode_feeds(text("const . 1", "out 0"), (ONE,), 7, ()), ())

    def test_errors_of_encode(self):
        for feeds, error in (((), FeedError), (((1, 2),), FeedError), (((1, 2), (3,), (4,)), FeedError), (((1,), (3,)), FeedError),
                             (((1, 2), (3, 4)), FeedError), (((10, 2), (3,)), RangeError), (((1, 2), (-1,)), RangeError),
                             (((10, 2), (3, 4)), RangeError), (((1, 2, 3), (-1,)), FeedError)):
            with self.assertRaises(error):
                encode_feeds(self.GRAPH, self.TABLE, 7, feeds)
            with self.assertRaises(TableError):
                encode_feeds(self.GRAPH, self.TABLE[1:], 7, feeds)

    def test_decode(self):
        self.assertEqual(decode_outputs(self.GRAPH, self.TABLE, 7, ((1, 2), (-11,), (-63, 63))), (
            ((0, 1), (2, 1)), ((1, 6),), ((-128, 1), (124, 1))))
        self.assertTrue(is_tuples(decode_outputs(self.GRAPH, self.TABLE, 7, ((1, 2), (-11,), (-63, 63)))))

    def test_errors_of_decode(self):
        for values, error in (((), FeedError), (((1, 2), (3,)), FeedError), (((1, 2), (3,), (1,)), FeedError), (((1, 2), (3,), (1, 2, 3)), FeedError),
                              (((1, 2), (), (1, 2)), FeedError), (((1, 2), (3,), (1, 2), (4,)), FeedError), (((64, 2), (3,), (1,)), FeedError),
                              (((64, 2), (3,), (1, 2)), RangeError), (((1, 2), (-65,), (1, 2)), RangeError), (((1, 2), (3,), (1, 2 ** 80)), RangeError)):
            with self.assertRaises(error):
                decode_outputs(self.GRAPH, self.TABLE, 7, values)
            with self.assertRaises(TableError):
                decode_outputs(self.GRAPH, self.TABLE[1:], 7, values)
        self.assertEqual(decode_outputs(self.GRAPH, self.TABLE, 7, ((63, -64), (63,), (0, 0)))[0], ((124, 1), (-130, 1)))

    def test_drawn(self):
        for seed in range(60):
            random = Random(seed)
            graph, bits = random_model(seed, 7), random.randint(3, 12)
            table = drawn_table(seed, graph, bits)
            feeds = random_feeds(seed, graph)
            pairs = [pair for pair, one in zip(table, graph[0]) if one[0] == "input"]
            a, b = ends(bits)
            expected = tuple(tuple(min(b, max(a, near(n / Fraction(*scale)) + zero)) for n in feed)
                             for feed, (scale, zero) in zip(feeds, pairs))
            self.assertEqual(encode_feeds(graph, table, bits, feeds), expected)


if __name__ == "__main__":
    unittest.main()
