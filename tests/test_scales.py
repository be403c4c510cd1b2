"""Points 1001 to 1005."""

import unittest
from fractions import Fraction
from random import Random

from making import const, given, is_tuples, node
from models import MODEL_KINDS, drawn_table, ends, multiplier_of, near, plain_table, random_model
from tensorcompiler.bounds import bound_of
from tensorcompiler.errors import AxisError, FormError, KindError, RangeError, TableError
from tensorcompiler.kinds import KINDS
from tensorcompiler.notation import read_graph
from tensorcompiler.quantizing import decode_outputs, encode_feeds, quantize_graph
from tensorcompiler.scales import check_table, choose_table, code_of, meaning_of, multiplier

OTHER = {
    "less": "less 0 0", "equal": "equal 0 0", "clamp": "clamp 0 0 1", "shift": "shift 0 1", "where": "where 0 0 0", "peak": "peak 0 k",
    "fold": "spread 0 z 2\nfold 2 k z 1 9", "gather": "rename 0 k z\ngather 0 2 k",
}
SAME = {
    "input": "input . 0 1", "const": "const . 4", "add": "add 0 0", "sub": "sub 0 0", "mul": "mul 0 0", "max": "max 0 1", "min": "min 0 1",
    "neg": "neg 0", "sum": "sum 0 k", "dot": "dot 0 1 k", "order": "order 0 k", "rename": "rename 0 k z", "spread": "spread 0 z 2",
    "cut": "cut 0 k 0 1", "pad": "pad 0 k 1 1", "join": "join 0 1 k", "window": "window 0 k z 2 1",
}
GRAPH = read_graph("input k3 -9 9\nconst k3 1 -2 3\nadd 0 1\norder 2 k\nout 3\n")


def with_line(lines):
    return read_graph("input k3 -9 9\nconst k3 1 -2 3\n" + lines + "\nout 0\n")


def calls(graph, table, bits):
    """All functions that take a table, with wrong feeds and values."""
    return (lambda: check_table(graph, table, bits), lambda: quantize_graph(graph, table, bits),
            lambda: encode_feeds(graph, table, bits, ((1,),)), lambda: decode_outputs(graph, table, bits, ()),
            lambda: bound_of(graph, table, bits))


class Models(unittest.TestCase):
    def refuse(self, error, graph, bits, table=()):
        for call in (lambda: choose_table(graph, bits),) + calls(graph, table, bits):
            with self.assertRaises(error) as caught:
                call()
            self.assertIs(type(caught.exception), error)

    def test_kinds(self):
        self.assertEqual(set(OTHER) | set(SAME), set(KINDS))
        self.assertEqual(set(SAME), set(MODEL_KINDS))
        for kind, lines in SAME.items():
            choose_table(with_line(lines), 8)
        for kind, lines in OTHER.items():
            for bits in (8, 2, 13):
                self.refuse(KindError, with_line(lines), bits)

    def test_errors_of_the_graph_come_first(self):
        for bits in (8, 2):
            self.refuse(FormError, (GRAPH[0], ()), bits)
            self.refuse(AxisError, (GRAPH[0] + (node("peak", (0,), "z"),), (0,)), bits)
            self.refuse(FormError, (GRAPH[0] + (node("peak", (0,), "k"),), ()), bits)

    def test_bits(self):
        for bits in (2, 13, 0, -3, 100):
            self.refuse(RangeError, GRAPH, bits)
            with self.assertRaises(RangeError):
                code_of(((1, 1), 0), bits, (0, 1))
        for bits in range(3, 13):
            check_table(GRAPH, choose_table(GRAPH, bits), bits)


class Choosing(unittest.TestCase):
    def test_example(self):
        self.assertEqual(choose_table(((("input", (), ((), -1, 3)),), (0,)), 4), (((2, 7), -4),))

    def test_intervals(self):
        for low, high, bits, pair in (
                (0, 0, 8, ((1, 1), 0)), (0, 7, 4, ((1, 2), -8)), (-7, 0, 4, ((1, 2), 6)), (-7, 7, 4, ((1, 1), -1)),
                # Intervals that do not contain 0 are made to.
                (3, 7, 4, ((1, 2), -8)), (-7, -3, 4, ((1, 2), 6)), (5, 5, 3, ((5, 6), -4)), (-5, -5, 3, ((5, 6), 2)),
                (-100, 154, 8, ((1, 1), -28)), (0, 2 ** 100, 12, ((2 ** 99, 2047), -2048))):
            self.assertEqual(choose_table((((given("k2", low, high)),), (0,)), bits), (pair,))
        self.assertEqual(choose_table(((const("k2", 0, 0),), (0,)), 8), (((1, 1), 0),))
        self.assertEqual(choose_table(((const("k2", 3, 7),), (0,)), 4), (((1, 2), -8),))

    def test_moving_nodes_have_the_pair_of_their_arg(self):
        for kind in ("order", "rename", "spread", "cut", "pad", "window"):
            table = choose_table(with_line(SAME[kind]), 8)
            self.assertEqual(table[2], table[0])
        # Even where their interval is another one: that of pad has 0 in it.
        table = choose_table(read_graph("input k2 3 7\npad 0 k 1 0\nneg 1\nout 2\n"), 4)
        self.assertEqual(table, (((1, 2), -8), ((1, 2), -8), ((1, 2), 6)))

    def test_drawn(self):
        for seed in range(80):
            graph = random_model(seed, 12)
            for bits in (3, 5, 8, 12):
                table = choose_table(graph, bits)
                self.assertEqual(table, plain_table(graph, bits))
                self.assertTrue(is_tuples(table))
                if all(max(scale) <= 2 ** 40 for scale, _ in table):
                    self.assertIsNone(check_table(graph, table, bits))


class Checking(unittest.TestCase):
    TABLE = choose_table(GRAPH, 8)

    def refuse(self, table, bits=8, graph=GRAPH):
        for call in calls(graph, table, bits):
            with self.assertRaises(TableError):
                call()

    def changed(self, place, pair):
        return self.TABLE[:place] + (pair,) + self.TABLE[place + 1:]

    def test_numbers_of_pairs(self):
        self.assertIsNone(check_table(GRAPH, self.TABLE, 8))
        for table in ((), self.TABLE[:-1], self.TABLE + self.TABLE[:1]):
            self.refuse(table)

    def test_scales(self):
        graph = ((const("", 0),), (0,))
        for scale in ((1, 1), (1, 2 ** 40), (2 ** 40, 1), (2 ** 40 - 1, 2 ** 40)):
            self.assertIsNone(check_table(graph, ((scale, 0),), 8))
        for scale in ((0, 1), (-1, 1), (-3, 7), (1, 2 ** 40 + 1), (2 ** 40 + 1, 1), (2 ** 40 + 1, 2 ** 40)):
            self.refuse(((scale, 0),), graph=graph)

    def test_zeros(self):
        graph = ((const("", 0),), (0,))
        for bits in (3, 8, 12):
            a, b = ends(bits)
            for zero in (a, b, 0):
                self.assertIsNone(check_table(graph, (((1, 1), zero),), bits))
            for zero in (a - 1, b + 1):
                self.refuse((((1, 1), zero),), bits, graph)

    def test_zeros_that_only_are_no_codes(self):
        # The codes reach over the interval all the same.
        for low, high, zero in ((5, 9, -128), (-9, -5, 127)):
            graph = ((given("k2", low, high),), (0,))
            self.assertIsNone(check_table(graph, (((1, 1), zero),), 8))
            self.refuse((((1, 1), zero + (1 if zero > 0 else -1)),), graph=graph)

    def test_intervals_at_their_ends(self):
        # With the scale 1/2 and the zero 10 the codes from -128 to 127 mean -69 to 58.5.
        for low, high, good in ((-69, 58, True), (-70, 58, False), (-69, 59, False), (-69, -69, True), (58, 58, True), (59, 59, False)):
            graph = ((given("k2", low, high),), (0,))
            if good:
                self.assertIsNone(check_table(graph, (((1, 2), 10),), 8))
            else:
                self.refuse((((1, 2), 10),), graph=graph)

    def test_moving_nodes(self):
        self.refuse(self.changed(3, ((1, 1), 0)))
        self.refuse(self.changed(3, (self.TABLE[2][0], self.TABLE[2][1] + 1)))
        wide = ((2, 1), 0)
        self.refuse(self.changed(2, wide))
        self.assertIsNone(check_table(GRAPH, self.changed(2, wide)[:3] + (wide,), 8))
        # The interval of a moving node is not asked: that of its arg is enough.
        graph = read_graph("input k2 3 7\npad 0 k 1 0\nout 1\n")
        self.assertIsNone(check_table(graph, (((1, 16), -60),) * 2, 8))

    def test_every_node_is_asked(self):
        for place in range(4):
            for pair in (((0, 1), 0), ((1, 1), 128), ((1, 2 ** 40), 0)):
                self.refuse(self.changed(place, pair))

    def test_drawn_tables(self):
        for seed in range(60):
            graph = random_model(seed, 9)
            for bits in (3, 8, 12):
                self.assertIsNone(check_table(graph, drawn_table(seed, graph, bits), bits))


class Codes(unittest.TestCase):
    def test_inside(self):
        pair = ((1, 2), 10)
        for x, code in (((0, 1), 10), ((5, 1), 20), ((-5, 1), 0), ((1, 4), 11), ((-1, 4), 10), ((1, 8), 10), ((3, 8), 11), ((-3, 8), 9),
                        ((1, 5), 10), ((-69, 1), -128), ((117, 2), 127)):
            self.assertEqual(code_of(pair, 8, x), code, x)

    def test_outside(self):
        pair = ((1, 2), 10)
        for x, code in (((-139, 2), -128), ((59, 1), 127), ((2 ** 300, 1), 127), ((-2 ** 300, 3), -128), ((117, 2), 127), ((235, 4), 127)):
            self.assertEqual(code_of(pair, 8, x), code)
        for bits in range(3, 13):
            a, b = ends(bits)
            self.assertEqual((code_of(((1, 1), 0), bits, (9999, 1)), code_of(((1, 1), 0), bits, (-9999, 1))), (b, a))

    def test_meanings(self):
        self.assertEqual(meaning_of(((1, 2), 10), 10), (0, 1))
        self.assertEqual(meaning_of(((1, 2), 10), 13), (3, 2))
        self.assertEqual(meaning_of(((2, 3), -4), -7), (-2, 1))
        self.assertEqual(meaning_of(((6, 7), 0), 14), (12, 1))

    def test_what_codes_mean(self):
        for seed in range(300):
            random = Random(seed)
            bits = random.randint(3, 12)
            a, b = ends(bits)
            scale = Fraction(random.randint(1, 20), random.randint(1, 20))
            pair = ((scale.numerator, scale.denominator), random.randint(a, b))
            for code in (a, b, random.randint(a, b)):
                meaning = meaning_of(pair, code)
                self.assertEqual(Fraction(*meaning), scale * (code - pair[1]))
                self.assertEqual(code_of(pair, bits, meaning), code)
            x = scale * (random.choice((a, b, Fraction(random.randint(2 * a, 2 * b), 2))) - pair[1])
            code = code_of(pair, bits, (x.numerator, x.denominator))
            self.assertEqual(code, min(b, max(a, near(x / scale) + pair[1])))
            self.assertLessEqual(abs(Fraction(*meaning_of(pair, code)) - x), scale / 2)
            if scale.numerator == 1 and scale * (a - pair[1]) <= near(x) <= scale * (b - pair[1]):
                self.assertEqual(meaning_of(pair, code_of(pair, bits, (near(x), 1))), (near(x), 1))


class Multipliers(unittest.TestCase):
    def test_example(self):
        self.assertEqual(multiplier((1, 3)), (43691, 17))

    def test_powers_of_two(self):
        for n in range(-14, 15):
            f = Fraction(2) ** n
            self.assertEqual(multiplier((f.numerator, f.denominator)), (2 ** 15, 15 - n))
        self.assertEqual(multiplier((1, 2 ** 15)), (2 ** 15, 30))
        # Then the shift cannot grow any more.
        self.assertEqual(multiplier((1, 2 ** 16)), (2 ** 14, 30))
        self.assertEqual(multiplier((1, 2 ** 30)), (1, 30))

    def test_around_powers_of_two(self):
        self.assertEqual(multiplier((2 ** 20 - 1, 2 ** 20)), (65536 // 2, 15))
        self.assertEqual(multiplier((2 ** 20 + 1, 2 ** 20)), (32768, 15))
        self.assertEqual(multiplier((65535, 65536)), (65535, 16))
        self.assertEqual(multiplier((65537, 65536)), (32769, 15))

    def test_around_the_greatest_factor(self):
        # 65535 and a half is rounded up to 65536, which is too much.
        self.assertEqual(multiplier((131070, 4)), (65535, 1))
        self.assertEqual(multiplier((131071, 2 ** 17)), (32768, 15))
        self.assertEqual(multiplier((262141, 2 ** 18)), (65535, 16))
        self.assertEqual(multiplier((65535, 2)), (65535, 1))
        self.assertEqual(multiplier((65534, 2)), (65534, 1))
        self.assertEqual(multiplier((32767, 1)), (65534, 1))
        self.assertEqual(multiplier((262141, 8)), (65535, 1))
        for f in ((32768, 1), (131071, 4), (65536, 1), (2 ** 300, 1), (262142, 7)):
            with self.assertRaises(TableError):
                multiplier(f)

    def test_too_small(self):
        self.assertEqual(multiplier((1, 2 ** 31)), (1, 30))
        for f in ((1, 2 ** 31 + 1), (1, 2 ** 32), (1, 2 ** 300)):
            with self.assertRaises(TableError):
                multiplier(f)

    def test_drawn(self):
        for seed in range(500):
            random = Random(seed)
            f = Fraction(random.randint(1, 2 ** random.randint(1, 20)), random.randint(1, 2 ** random.randint(1, 25)))
            if f >= 32767 or f * 2 ** 30 < 1:
                continue
            m, s = multiplier((f.numerator, f.denominator))
            self.assertEqual((m, s), multiplier_of(f))
            self.assertTrue(1 <= s <= 30 and 1 <= m <= 65535)
            self.assertLessEqual(abs(Fraction(m, 2 ** s) - f), Fraction(1, 2 ** (s + 1)))


if __name__ == "__main__":
    unittest.main()
