"""Points 1008 and 1009."""

import unittest
from fractions import Fraction
from random import Random

from making import is_tuples, random_feeds
from models import drawn_table, plain_bounds, random_model
from tensorcompiler.bounds import bound_of
from tensorcompiler.errors import TableError, TensorError
from tensorcompiler.meaning import evaluate
from tensorcompiler.notation import read_graph
from tensorcompiler.quantizing import decode_outputs, encode_feeds, quantize_graph
from tensorcompiler.scales import check_table, choose_table

ONE = ((1, 1), 0)


def text(*lines):
    return read_graph("".join(line + "\n" for line in lines))


class Lines(unittest.TestCase):
    def bound(self, expected, table, bits, *lines):
        graph = text(*lines)
        found = bound_of(graph, table, bits)
        self.assertEqual([Fraction(*one) for one in found], [Fraction(one) for one in expected])
        self.assertTrue(is_tuples(found))
        self.assertEqual([Fraction(*one) for one in found], plain_bounds(graph, table, bits))

    def test_input_and_const(self):
        for scale, error in (((1, 1), 0), ((1, 7), 0), ((2, 1), 1), ((3, 2), Fraction(3, 4)), ((2, 7), Fraction(1, 7))):
            self.bound((error,), ((scale, 0),), 8, "input . -9 9", "out 0")
        self.bound((0,), (((1, 3), 0),), 8, "const k2 3 -4", "out 0")
        # 3 means itself and -4 one more or less, whichever way it is rounded; 5 is off by 1.
        self.bound((1,), (((3, 1), 4),), 8, "const k3 3 -4 5", "out 0")
        self.bound((Fraction(1, 2),), (((5, 2), 4),), 8, "const k2 5 3", "out 0")

    def test_moving(self):
        for line in ("order 0 k", "rename 0 k z", "spread 0 z 2", "cut 0 k 1 1", "window 0 k z 2 1", "pad 0 k 1 1"):
            self.bound((1, 1), (((2, 1), 3), ((2, 1), 3)), 8, "input k2 -9 9", line, "out 1 0")

    def test_steps(self):
        # The factor 1 adds nothing, another one half of the scale and what its multiplier misses.
        self.bound((1,), (((2, 1), 0), ((2, 1), 5)), 8, "input . -9 9", "neg 0", "out 1")
        self.bound((1 + Fraction(1, 2),), (((2, 1), 0), ((1, 1), 0)), 8, "input . -9 9", "neg 0", "out 1")
        missed = abs(Fraction(2, 3) - Fraction(43691, 2 ** 16))
        # The greatest distance of a code from the zero 28 is 156.
        self.bound((1 + 3 * (156 * missed + Fraction(1, 2)),), (((2, 1), 28), ((3, 1), 0)), 8, "input . -9 9", "neg 0", "out 1")
        self.bound((1 + 3 * (155 * missed + Fraction(1, 2)),), (((2, 1), -28), ((3, 1), 0)), 8, "input . -9 9", "neg 0", "out 1")
        # A multiplier that is 1 for a factor that is not.
        self.bound((Fraction(10 ** 9, 2 * (10 ** 9 - 1)) + 128 * Fraction(1, 10 ** 9 - 1),), (((10 ** 9, 10 ** 9 - 1), 0), ONE), 8,
                   "input . -9 9", "neg 0", "out 1")

    def test_two_args(self):
        half = Fraction(1, 2)
        table = (((2, 1), 0), ((4, 1), 0), ((1, 1), 0))
        lines = ("input k2 -9 9", "input k2 -9 9")
        for kind in ("add", "sub"):
            self.bound((1 + 2 + half + half,), table, 8, *lines, f"{kind} 0 1", "out 2")
            self.bound((1 + 1,), (((2, 1), 0),) * 2, 8, lines[0], f"{kind} 0 0", "out 1")
        for kind, rest in (("max", ""), ("min", ""), ("join", " k")):
            self.bound((2 + half,), table, 8, *lines, f"{kind} 0 1{rest}", "out 2")
            self.bound((2 + half,), table, 8, *lines, f"{kind} 1 0{rest}", "out 2")
            self.bound((1,), (((2, 1), 0),) * 2, 8, lines[0], f"{kind} 0 0{rest}", "out 1")

    def test_products_and_sums(self):
        half = Fraction(1, 2)
        # e = 1 and 2; D = 128 + 3 and 128 + 5; the ranges are 9 and 7.
        table = (((2, 1), 3), ((4, 1), 5), ((8, 1), 0))
        lines = ("input k2 -9 8", "input k2 -5 7")
        self.bound((2 * 131 * 2 + 7 * 1,), table, 8, *lines, "mul 0 1", "out 2")
        self.bound((2 * (2 * 131 * 2 + 7 * 1),), table, 8, *lines, "dot 0 1 k", "out 2")
        self.bound((4 * 133 * 1 + 9 * 2,), table, 8, *lines, "mul 1 0", "out 2")
        table = (((2, 1), 3), ((4, 1), 5), ((4, 1), 0))
        self.bound((2 * 131 * 2 + 7 * 1 + 4 * half,), table, 8, *lines, "mul 0 1", "out 2")
        table = (((2, 1), 3), ((4, 1), 5), ((3, 1), 0))
        missed = abs(Fraction(8, 3) - Fraction(43691, 2 ** 14))
        self.bound((2 * 131 * 2 + 7 * 1 + 3 * (131 * 133 * missed + half),), table, 8, *lines, "mul 0 1", "out 2")
        self.bound((2 * (2 * 131 * 2 + 7 * 1) + 3 * (2 * 131 * 133 * missed + half),), table, 8, *lines, "dot 0 1 k", "out 2")
        self.bound((2 * 1,), (((2, 1), 3), ((2, 1), 0)), 8, lines[0], "sum 0 k", "out 1")
        missed = abs(Fraction(2, 3) - Fraction(43691, 2 ** 16))
        self.bound((2 * 1 + 3 * (2 * 131 * missed + half),), (((2, 1), 3), ((3, 1), 0)), 8, lines[0], "sum 0 k", "out 1")

    def test_outputs(self):
        self.bound((1, 0, 1), (((2, 1), 0), ONE), 8, "input . 0 9", "const . 4", "out 0 1 0")

    def test_errors(self):
        graph = text("input k2 -1 1", "mul 0 0", "sum 1 k", "out 0")
        bound_of(graph, (((2 ** 7, 1), 0), ONE, ONE), 8)
        with self.assertRaises(TableError):
            bound_of(graph, (((2 ** 8, 1), 0), ONE, ONE), 8)
        with self.assertRaises(TableError):
            bound_of(graph, (((2 ** 7, 1), 0), ONE, ((2 ** 40, 1), 0)), 8)
        # The bound does not ask whether the quantized graph is valid.
        rows = ["input . -1 1"] + [f"neg {place}" for place in range(100)]
        graph = text(*rows, "out 100")
        self.assertEqual(len(bound_of(graph, tuple(((1, 1 + place % 2), 1) for place in range(101)), 8)), 1)

    def test_drawn(self):
        for seed in range(150):
            random = Random(seed)
            graph, bits = random_model(seed, 10), random.randint(3, 12)
            table = drawn_table(seed, graph, bits) if seed % 2 else choose_table(graph, bits)
            try:
                found = bound_of(graph, table, bits)
            except TableError:
                continue
            self.assertEqual([Fraction(*one) for one in found], plain_bounds(graph, table, bits))


class Guarantee(unittest.TestCase):
    """Point 1009."""

    def compare(self, graph, table, bits, seed):
        """What is decoded differs by at most the bound; returns by which share of it at most."""
        coded = quantize_graph(graph, table, bits)
        bounds = bound_of(graph, table, bits)
        share = 0
        for turn in range(6):
            feeds = random_feeds(100 * seed + turn, graph)
            codes = evaluate(coded, encode_feeds(graph, table, bits, feeds))
            decoded = decode_outputs(graph, table, bits, codes)
            for bound, numbers, meanings in zip(bounds, evaluate(graph, feeds), decoded):
                for n, meaning in zip(numbers, meanings):
                    difference = abs(n - Fraction(*meaning))
                    self.assertLessEqual(difference, Fraction(*bound))
                    share = max(share, difference / Fraction(*bound) if bound[0] else 0)
        return share

    def test_drawn(self):
        made, best = 0, 0
        for seed in range(250):
            random = Random(seed)
            graph, bits = random_model(seed, random.randint(4, 10)), random.choice((3, 4, 6, 8, 12))
            table = drawn_table(seed, graph, bits) if seed % 2 else choose_table(graph, bits)
            try:
                check_table(graph, table, bits)
                quantize_graph(graph, table, bits)
            except TensorError as error:
                self.assertIsInstance(error, TableError)
                continue
            made += 1
            best = max(best, self.compare(graph, table, bits, seed))
        self.assertGreater(made, 180)
        # The bounds are not far away: now and then they are reached.
        self.assertEqual(best, 1)

    def test_scales_of_one_and_zeros_of_nought(self):
        made = 0
        for seed in range(120):
            graph = random_model(seed, 7)
            table = (ONE,) * len(graph[0])
            try:
                check_table(graph, table, 12)
            except TableError:
                continue
            made += 1
            self.assertEqual(set(bound_of(graph, table, 12)), {(0, 1)})
            self.assertEqual(self.compare(graph, table, 12, seed), 0)
        self.assertGreater(made, 60)


if __name__ == "__main__":
    unittest.main()
