"""Points 202 and 203: the domain of a node of each kind, and each error."""

import unittest

from making import const, domain, given, node, shape_of
from tensorcompiler.domains import domain_of
from tensorcompiler.errors import AxisError, FormError, KindError, RangeError, RankError, TooLarge, TooWide
from tensorcompiler.kinds import KINDS

WIDEST = 2 ** 200

# Args and fields of a node of each kind that is valid for DOMAINS.
VALID = {
    "input": ((), (shape_of("i2"), -3, 4)), "const": ((), (shape_of("i2"), (5, -6))),
    "add": ((0, 1), ()), "sub": ((0, 1), ()), "mul": ((0, 1), ()), "max": ((0, 1), ()), "min": ((0, 1), ()),
    "less": ((0, 1), ()), "equal": ((0, 1), ()), "neg": ((0,), ()), "clamp": ((0,), (-2, 3)), "shift": ((0,), (1,)),
    "where": ((0, 1, 1), ()), "sum": ((0,), ("i",)), "peak": ((0,), ("i",)), "dot": ((0, 1), ("k",)),
    "order": ((0,), ("ki",)), "rename": ((0,), ("i", "z")), "spread": ((0,), ("z", 3)), "cut": ((0,), ("i", 1, 2)),
    "pad": ((0,), ("i", 1, 2)), "join": ((0, 0), ("i",)), "window": ((0,), ("i", "z", 2, 1)),
    "fold": ((0,), ("i", "k", 2, 9)), "gather": ((0, 2), ("i",)),
}
DOMAINS = (domain("i4k3", -5, 7), domain("k3j2", -2, 3), domain("m2", 0, 9))


class Domains(unittest.TestCase):
    def check(self, one, domains, word, low, high):
        with self.subTest(one):
            self.assertEqual(domain_of(one, tuple(domains)), (shape_of(word), low, high))

    def test_sources(self):
        self.check(given("i2k3", -4, 9), (), "i2k3", -4, 9)
        self.check(given("", 5, 5), (), "", 5, 5)
        self.check(given("i16j16", -WIDEST, WIDEST), DOMAINS, "i16j16", -WIDEST, WIDEST)
        self.check(const("k4", 1, 2, 3, -4), (), "k4", -4, 3)
        self.check(const("", -7), (), "", -7, -7)
        self.check(const("i2", WIDEST, -WIDEST), (), "i2", -WIDEST, WIDEST)

    def test_two_args(self):
        a, b = domain("i4k3", -5, 7), domain("k3j2", -2, 3)
        cases = (
            ("add", -7, 10), ("sub", -8, 9), ("mul", -15, 21), ("max", -2, 7), ("min", -5, 3), ("less", 0, 1),
            ("equal", 0, 1),
        )
        for kind, low, high in cases:
            self.check(node(kind, (0, 1)), (a, b), "i4k3j2", low, high)
        self.check(node("sub", (1, 0)), (a, b), "k3j2i4", -9, 8)
        self.check(node("max", (0, 1)), (domain("", 2, 9), domain("", 3, 4)), "", 3, 9)
        self.check(node("min", (0, 1)), (domain("", 2, 9), domain("", 3, 4)), "", 2, 4)
        self.check(node("less", (0, 1)), (domain("", 0, 1), domain("", 5, 6)), "", 0, 1)
        self.check(node("add", (0, 0)), (domain("i2", 1, 2),), "i2", 2, 4)

    def test_corners(self):
        cases = (
            ((2, 3), (5, 7), 10, 21), ((-3, -2), (5, 7), -21, -10), ((-3, -2), (-7, -5), 10, 21),
            ((-3, 2), (5, 7), -21, 14), ((-3, 2), (-7, 5), -15, 21), ((0, 0), (-9, 4), 0, 0),
            ((-3, 4), (-3, 4), -12, 16),
        )
        for (l, h), (p, q), low, high in cases:
            domains = (domain("k3", l, h), domain("k3", p, q))
            self.check(node("mul", (0, 1)), domains, "k3", low, high)
            self.check(node("dot", (0, 1), "k"), domains, "", 3 * low, 3 * high)

    def test_one_arg(self):
        a = (domain("i2", -5, 8),)
        self.check(node("neg", (0,)), a, "i2", -8, 5)
        self.check(node("clamp", (0,), -3, 9), a, "i2", -3, 8)
        self.check(node("clamp", (0,), 9, 12), a, "i2", 9, 9)
        self.check(node("clamp", (0,), -9, -7), a, "i2", -7, -7)
        self.check(node("clamp", (0,), -WIDEST, WIDEST), a, "i2", -5, 8)
        self.check(node("shift", (0,), 1), a, "i2", -2, 4)
        self.check(node("shift", (0,), 2), a, "i2", -1, 2)
        self.check(node("shift", (0,), 30), a, "i2", 0, 0)

    def test_where(self):
        domains = (domain("m2", -1, 1), domain("i4", -5, 7), domain("k3i4", -2, 9))
        self.check(node("where", (0, 1, 2)), domains, "m2i4k3", -5, 9)
        self.check(node("where", (0, 2, 1)), domains, "m2k3i4", -5, 9)
        self.check(node("where", (1, 0, 0)), domains, "i4m2", -1, 1)
        # The condition does not count, even where it is never 0.
        self.check(node("where", (0, 1, 2)), (domain("", 1, 1), domain("", 2, 3), domain("", 8, 9)), "", 2, 9)

    def test_reducing(self):
        a, b = domain("i4k3", -5, 7), domain("k3j2", -2, 3)
        self.check(node("sum", (0,), "i"), (a,), "k3", -20, 28)
        self.check(node("sum", (0,), "k"), (a,), "i4", -15, 21)
        self.check(node("peak", (0,), "i"), (a,), "k3", -5, 7)
        self.check(node("dot", (0, 1), "k"), (a, b), "i4j2", -45, 63)
        self.check(node("dot", (1, 0), "k"), (a, b), "j2i4", -45, 63)
        self.check(node("fold", (0,), "i", "k", 2, 9), (a,), "i9", -15, 21)
        self.check(node("fold", (0,), "k", "i", 1, 6), (a,), "k6", -20, 28)
        self.check(node("fold", (0,), "k", "i", 1, 6), (domain("i4m2k3", 2, 7),), "m2k6", 0, 28)
        self.check(node("fold", (0,), "k", "i", 1, 6), (domain("i4m2k3", -7, -2),), "m2k6", -28, 0)

    def test_a_dot_may_be_large_within(self):
        self.check(node("dot", (0, 1), "k"), (domain("i16k16", 0, 1), domain("j16k16", 0, 1)), "i16j16", 0, 16)
        self.check(node("dot", (0, 1), "k"), (domain("a2b2c2k2", 0, 1), domain("k2d2", 0, 1)), "a2b2c2d2", 0, 2)

    def test_moving(self):
        a = (domain("i4k3m2", -5, 7),)
        self.check(node("order", (0,), "mik"), a, "m2i4k3", -5, 7)
        self.check(node("order", (0,), ""), (domain("", 1, 2),), "", 1, 2)
        self.check(node("rename", (0,), "k", "a"), a, "i4a3m2", -5, 7)
        self.check(node("spread", (0,), "a", 1), a, "i4k3m2a1", -5, 7)
        self.check(node("cut", (0,), "i", 1, 3), a, "i3k3m2", -5, 7)
        self.check(node("cut", (0,), "i", 0, 4), a, "i4k3m2", -5, 7)
        self.check(node("pad", (0,), "k", 2, 4), a, "i4k9m2", -5, 7)
        self.check(node("pad", (0,), "i", 0, 0), (domain("i4", 2, 7),), "i4", 0, 7)
        self.check(node("pad", (0,), "i", 3, 0), (domain("i4", -7, -2),), "i7", -7, 0)
        self.check(node("pad", (0,), "i", 0, 12), (domain("i4", -7, -2),), "i16", -7, 0)
        self.check(node("join", (0, 1), "k"), (domain("i4k3", -5, 7), domain("i4k2", -9, 3)), "i4k5", -9, 7)
        self.check(node("join", (0, 1), "i"), (domain("i4k3", 1, 2), domain("i4k3", -9, -3)), "i8k3", -9, 2)

    def test_windows(self):
        a = (domain("k3i9m2", -5, 7),)
        self.check(node("window", (0,), "i", "w", 2, 3), a, "k3i3w2m2", -5, 7)
        self.check(node("window", (0,), "i", "w", 9, 1), a, "k3i1w9m2", -5, 7)
        self.check(node("window", (0,), "i", "w", 1, 16), a, "k3i1w1m2", -5, 7)
        self.check(node("window", (0,), "i", "w", 4, 2), (domain("i9", 1, 2),), "i3w4", 1, 2)
        self.check(node("window", (0,), "k", "a", 1, 1), (domain("k3", 1, 2),), "k3a1", 1, 2)

    def test_gathers(self):
        self.check(node("gather", (0, 1), "k"), (domain("i4k3m2", -5, 7), domain("b2a3", 0, 99)), "i4b2a3m2", -5, 7)
        self.check(node("gather", (0, 1), "k"), (domain("i4k3", -5, 7), domain("", 0, 99)), "i4", -5, 7)
        self.check(node("gather", (0, 1), "k"), (domain("k3", -5, 7), domain("a5", -1, 1)), "a5", -5, 7)

    def test_the_valid_ones(self):
        self.assertEqual(tuple(VALID), KINDS)
        for kind, (args, info) in VALID.items():
            self.assertEqual(len(domain_of((kind, args, info), DOMAINS)), 3)


class Errors(unittest.TestCase):
    def check(self, one, domains, error):
        with self.subTest(one):
            with self.assertRaises(error) as caught:
                domain_of(one, tuple(domains))
            self.assertIs(type(caught.exception), error)

    def test_1_unknown_kinds(self):
        for kind in ("", "out", "Add", "add ", "inputs", "div"):
            self.check((kind, (), ()), (), KindError)
        # It comes before everything else.
        self.check(("div", (-1, 99), (5, 6)), (), KindError)

    def test_2_numbers_of_args_and_fields(self):
        for kind, (args, info) in VALID.items():
            self.check((kind, args + (0,), info), DOMAINS, FormError)
            self.check((kind, args, info + (1,)), DOMAINS, FormError)
            if args:
                self.check((kind, args[1:], info), DOMAINS, FormError)
            if info:
                self.check((kind, args, info[:-1]), DOMAINS, FormError)

    def test_2_numbers_of_data(self):
        for one in (const("i2", 1), const("i2", 1, 2, 3), const(""), const("", 1, 2), const("i2j3", 1, 2, 3, 4, 5)):
            self.check(one, (), FormError)
        # The sizes are multiplied as they are, so a bad shape can have the right number of data.
        self.check(const("i0"), (), RangeError)
        self.check(const("i0", 1), (), FormError)
        self.check(("const", (), ((("i", -1), ("j", -2)), (3, 4))), (), RangeError)
        self.check(("const", (), ((("i", -1), ("j", 2)), ())), (), FormError)
        self.check(const("i17", *range(17)), (), RangeError)
        self.check(const("i17", *range(16)), (), FormError)
        self.check(const("i2i2", 1, 2, 3, 4), (), AxisError)
        self.check(const("i2i2", 1, 2), (), FormError)

    def test_3_args_that_are_no_earlier_nodes(self):
        for kind, (args, info) in VALID.items():
            for k in range(len(args)):
                for bad in (-1, 3, 4, 99):
                    self.check((kind, args[:k] + (bad,) + args[k + 1:], info), DOMAINS, FormError)
        self.check(node("neg", (0,)), (), FormError)
        # It comes before the fields and the axes.
        self.check(node("clamp", (3,), 2, 1), DOMAINS, FormError)
        self.check(node("sum", (-1,), "z"), DOMAINS, FormError)

    def test_4_intervals(self):
        self.check(given("i2", 1, 0), (), RangeError)
        self.check(node("clamp", (0,), 1, 0), DOMAINS, RangeError)
        self.check(node("clamp", (0,), -WIDEST - 1, 0), DOMAINS, RangeError)
        self.check(node("clamp", (0,), 0, WIDEST + 1), DOMAINS, RangeError)
        self.check(node("clamp", (0,), WIDEST + 1, WIDEST + 1), DOMAINS, RangeError)
        self.check(node("clamp", (0,), -WIDEST - 1, -WIDEST - 1), DOMAINS, RangeError)
        self.assertEqual(domain_of(node("clamp", (0,), WIDEST, WIDEST), DOMAINS)[1], WIDEST)
        self.assertEqual(domain_of(node("clamp", (0,), -WIDEST, -WIDEST), DOMAINS)[2], -WIDEST)

    def test_4_other_fields(self):
        for n in (-1, 0, 31, 99):
            self.check(node("shift", (0,), n), DOMAINS, RangeError)
        for n in (-1, 0, 17):
            self.check(node("spread", (0,), "z", n), DOMAINS, RangeError)
            self.check(node("cut", (0,), "i", 0, n), DOMAINS, RangeError)
            self.check(node("window", (0,), "i", "z", n, 1), DOMAINS, RangeError)
            self.check(node("window", (0,), "i", "z", 1, n), DOMAINS, RangeError)
            self.check(node("fold", (0,), "i", "k", n, 16), DOMAINS, RangeError)
            self.check(node("fold", (0,), "i", "k", 1, n), DOMAINS, RangeError)
        for n in (-1, 17):
            self.check(node("cut", (0,), "i", n, 1), DOMAINS, RangeError)
            self.check(node("pad", (0,), "i", n, 0), DOMAINS, RangeError)
            self.check(node("pad", (0,), "i", 0, n), DOMAINS, RangeError)
        # These stand at the ends of the ranges.
        small = (domain("i1k1", 0, 1),)
        for one in (
                node("shift", (0,), 1), node("shift", (0,), 30), node("spread", (0,), "z", 1),
                node("spread", (0,), "z", 16), node("cut", (0,), "i", 0, 1), node("pad", (0,), "i", 0, 15),
                node("pad", (0,), "i", 15, 0), node("window", (0,), "i", "z", 1, 16),
                node("fold", (0,), "i", "k", 16, 1), node("fold", (0,), "i", "k", 1, 16)):
            self.assertEqual(len(domain_of(one, small)), 3)
        wide = (domain("i16", 0, 1),)
        self.assertEqual(domain_of(node("cut", (0,), "i", 0, 16), wide), wide[0])
        self.assertEqual(domain_of(node("window", (0,), "i", "z", 16, 1), wide)[0], shape_of("i1z16"))
        self.check(node("cut", (0,), "z", 16, 16), wide, AxisError)
        self.check(node("pad", (0,), "z", 16, 16), wide, AxisError)

    def test_4_comes_before_5_6_and_7(self):
        self.check(given("i1i1", 1, 0), (), RangeError)
        self.check(node("spread", (0,), "i", 17), DOMAINS, RangeError)
        self.check(node("cut", (0,), "z", 0, 17), DOMAINS, RangeError)
        self.check(node("pad", (0,), "z", 17, 0), DOMAINS, RangeError)
        self.check(node("window", (0,), "z", "i", 0, 1), DOMAINS, RangeError)
        self.check(node("fold", (0,), "i", "i", 0, 1), DOMAINS, RangeError)

    def test_4_each_end_comes_before_the_axes(self):
        for n in (0, 17):
            self.check(node("spread", (0,), "i", n), DOMAINS, RangeError)
            self.check(node("cut", (0,), "z", 0, n), DOMAINS, RangeError)
            self.check(node("window", (0,), "z", "i", n, 1), DOMAINS, RangeError)
            self.check(node("window", (0,), "z", "i", 1, n), DOMAINS, RangeError)
            self.check(node("fold", (0,), "i", "i", n, 1), DOMAINS, RangeError)
            self.check(node("fold", (0,), "i", "i", 1, n), DOMAINS, RangeError)
        for n in (-1, 17):
            self.check(node("cut", (0,), "z", n, 1), DOMAINS, RangeError)
            self.check(node("pad", (0,), "z", n, 0), DOMAINS, RangeError)
            self.check(node("pad", (0,), "z", 0, n), DOMAINS, RangeError)
        for n in (1, 16):
            self.check(node("spread", (0,), "i", n), DOMAINS, AxisError)
            self.check(node("cut", (0,), "z", 16, n), DOMAINS, AxisError)
            self.check(node("pad", (0,), "z", 0, n), DOMAINS, AxisError)
            self.check(node("window", (0,), "z", "i", n, n), DOMAINS, AxisError)
            self.check(node("fold", (0,), "i", "i", n, n), DOMAINS, AxisError)

    def test_5_shapes(self):
        cases = (
            ("a1b1c1d1e1", RankError), ("i1i1", AxisError), ("i0", RangeError), ("i17", RangeError),
            ("i16j16k2", TooLarge), ("i0i0", AxisError),
        )
        for word, error in cases:
            shape = shape_of(word)
            self.check(("input", (), (shape, 0, 1)), (), error)
            count = 1
            for _, size in shape:
                count *= size
            self.check(("const", (), (shape, (1,) * count)), (), error)
            # It comes before the width of the interval.
            self.check(("input", (), (shape, 0, WIDEST + 1)), (), error)
            if count > 0:
                self.check(("const", (), (shape, (WIDEST + 1,) * count)), (), error)

    def test_6_missing_axes(self):
        for one in (
                node("sum", (0,), "z"), node("peak", (0,), "z"), node("dot", (0, 1), "z"), node("dot", (0, 1), "i"),
                node("dot", (0, 1), "j"), node("rename", (0,), "z", "y"), node("cut", (0,), "z", 0, 1),
                node("pad", (0,), "z", 0, 0), node("join", (0, 0), "z"), node("join", (0, 1), "i"),
                node("join", (0, 1), "j"), node("window", (0,), "z", "y", 1, 1), node("fold", (0,), "z", "k", 1, 16),
                node("gather", (0, 2), "z"), node("sum", (2,), "i")):
            self.check(one, DOMAINS, AxisError)
        self.check(node("sum", (0,), "i"), (domain(""),), AxisError)

    def test_6_orders(self):
        for letters in ("", "i", "k", "iik", "iki", "ii", "kk", "ij", "ikz", "IK"):
            self.check(node("order", (0,), letters), DOMAINS, AxisError)
        self.check(node("order", (0,), "a"), (domain(""),), AxisError)

    def test_6_new_letters(self):
        for one in (
                node("rename", (0,), "i", "k"), node("rename", (0,), "i", "i"), node("spread", (0,), "i", 2),
                node("spread", (0,), "k", 2), node("window", (0,), "i", "k", 1, 1),
                node("window", (0,), "i", "i", 1, 1)):
            self.check(one, DOMAINS, AxisError)

    def test_6_new_letters_come_before_7_and_8(self):
        full = (domain("a1b1c1d1"),)
        self.check(node("spread", (0,), "a", 2), full, AxisError)
        self.check(node("spread", (0,), "e", 2), full, RankError)
        self.check(node("window", (0,), "a", "b", 1, 1), full, AxisError)
        self.check(node("window", (0,), "a", "a", 1, 1), full, AxisError)
        self.check(node("window", (0,), "i", "k", 9, 1), DOMAINS, AxisError)
        self.check(node("cut", (0,), "z", 16, 16), DOMAINS, AxisError)
        self.check(node("gather", (0, 1), "a"), (domain("a1b1c1d1"), domain("b1e1")), AxisError)
        self.check(node("join", (0, 1), "a"), (domain("a16b1"), domain("a16b2")), AxisError)

    def test_6_folds(self):
        self.check(node("fold", (0,), "i", "z", 1, 16), DOMAINS, AxisError)
        self.check(node("fold", (0,), "i", "i", 1, 16), DOMAINS, AxisError)
        self.check(node("fold", (0,), "z", "z", 1, 16), DOMAINS, AxisError)
        # It comes before the size that does not suffice.
        self.check(node("fold", (0,), "i", "i", 16, 1), DOMAINS, AxisError)
        self.check(node("fold", (0,), "i", "z", 16, 1), DOMAINS, AxisError)

    def test_6_joins(self):
        pairs = (("i2k3", "k3i2"), ("i2k3", "i2"), ("i2", "i2k3"), ("i2k3", "i2k4"), ("i2k3", "i2m3"), ("i2k3m4", "i5k3m5"))
        for first, second in pairs:
            self.check(node("join", (0, 1), "i"), (domain(first), domain(second)), AxisError)
        self.check(node("join", (0, 1), "i"), (domain("i16k3"), domain("i16k4")), AxisError)

    def test_6_gathers(self):
        self.check(node("gather", (0, 1), "i"), (domain("i4k3"), domain("k3")), AxisError)
        self.check(node("gather", (0, 1), "i"), (domain("i4k3"), domain("i4")), AxisError)
        self.check(node("gather", (0, 1), "i"), (domain("i4k3"), domain("m2k5")), AxisError)
        self.check(node("gather", (0, 0), "i"), (domain("i4"),), AxisError)

    def test_7_fields_that_reach_too_far(self):
        self.check(node("cut", (0,), "i", 1, 4), DOMAINS, RangeError)
        self.check(node("cut", (0,), "i", 4, 1), DOMAINS, RangeError)
        self.check(node("cut", (0,), "i", 0, 5), DOMAINS, RangeError)
        self.check(node("cut", (0,), "i", 16, 16), DOMAINS, RangeError)
        self.check(node("window", (0,), "i", "z", 5, 1), DOMAINS, RangeError)
        # The axis i has 4, k has 3: with the stride 2 they reach up to 2 * 3 + 3 = 9.
        self.check(node("fold", (0,), "i", "k", 2, 8), DOMAINS, RangeError)
        self.check(node("fold", (0,), "i", "k", 16, 16), DOMAINS, RangeError)
        self.check(node("fold", (0,), "k", "i", 1, 5), DOMAINS, RangeError)

    def test_7_comes_before_8(self):
        wide = (domain("a2b2c2i5"),)
        self.check(node("window", (0,), "i", "z", 6, 1), wide, RangeError)
        self.check(node("window", (0,), "i", "z", 5, 1), wide, RankError)

    def test_8_broadcasts(self):
        for kind in ("add", "sub", "mul", "max", "min", "less", "equal"):
            self.check(node(kind, (0, 1)), (domain("i2"), domain("i3")), AxisError)
            self.check(node(kind, (0, 1)), (domain("i2"), domain("i1")), AxisError)
            self.check(node(kind, (0, 1)), (domain("a1b1c1"), domain("d1e1")), RankError)
            self.check(node(kind, (0, 1)), (domain("i16j16"), domain("k2")), TooLarge)
            self.check(node(kind, (0, 1)), (domain("a1b1c1d1"), domain("a2e1")), AxisError)

    def test_8_where_begins_with_c_and_a(self):
        self.check(node("where", (0, 1, 2)), (domain("i2"), domain("i3"), domain("a1b1c1d1")), AxisError)
        self.check(node("where", (0, 1, 2)), (domain("a1b1c1"), domain("d1e1"), domain("a2")), RankError)
        self.check(node("where", (0, 1, 2)), (domain("i16j16"), domain("k2"), domain("i3")), TooLarge)
        self.check(node("where", (0, 1, 2)), (domain("i16"), domain("j16"), domain("i3")), AxisError)
        self.check(node("where", (0, 1, 2)), (domain("i16"), domain("j16"), domain("k3")), TooLarge)
        self.check(node("where", (0, 1, 2)), (domain("i1j1"), domain("k1m1"), domain("a1")), RankError)
        self.check(node("where", (0, 1, 2)), (domain("i2"), domain("j1"), domain("j2")), AxisError)

    def test_8_dots(self):
        self.check(node("dot", (0, 1), "k"), (domain("k3"), domain("k2")), AxisError)
        self.check(node("dot", (0, 1), "k"), (domain("i2k3"), domain("k3i4")), AxisError)
        self.check(node("dot", (0, 1), "k"), (domain("a1b1c1k1"), domain("k1d1e1")), RankError)
        self.check(node("dot", (0, 1), "k"), (domain("i16k2"), domain("j16k2m2")), TooLarge)
        self.check(node("dot", (0, 1), "k"), (domain("a1b1c1k1"), domain("k2d1e1")), AxisError)

    def test_8_results(self):
        self.check(node("spread", (0,), "z", 1), (domain("a1b1c1d1"),), RankError)
        self.check(node("spread", (0,), "z", 2), (domain("i16j16"),), TooLarge)
        self.check(node("pad", (0,), "i", 1, 0), (domain("i16"),), RangeError)
        self.check(node("pad", (0,), "i", 16, 16), (domain("i1"),), RangeError)
        self.check(node("pad", (0,), "i", 1, 0), (domain("i1j16k16"),), TooLarge)
        self.check(node("join", (0, 0), "i"), (domain("i9"),), RangeError)
        self.check(node("join", (0, 0), "i"), (domain("i8j16k2"),), TooLarge)
        self.check(node("window", (0,), "i", "z", 1, 1), (domain("a1b1c1i1"),), RankError)
        self.check(node("window", (0,), "i", "z", 2, 1), (domain("i16j16"),), TooLarge)
        self.check(node("fold", (0,), "i", "k", 1, 5), (domain("i1j16k1m4"),), TooLarge)
        self.check(node("gather", (0, 1), "i"), (domain("a1b1c1i1"), domain("d1e1")), RankError)
        self.check(node("gather", (0, 1), "i"), (domain("i1j16"), domain("d16e2")), TooLarge)

    def test_8_comes_before_9(self):
        self.check(node("add", (0, 1)), (domain("i2", 0, WIDEST), domain("i3", 0, WIDEST)), AxisError)
        self.check(node("spread", (0,), "z", 2), (domain("i16j16", 0, WIDEST + 1),), TooLarge)

    def test_9_widths(self):
        self.check(given("i2", -WIDEST - 1, 0), (), TooWide)
        self.check(given("i2", 0, WIDEST + 1), (), TooWide)
        self.check(given("i2", WIDEST + 1, WIDEST + 1), (), TooWide)
        self.check(const("", WIDEST + 1), (), TooWide)
        self.check(const("i2", 0, -WIDEST - 1), (), TooWide)
        a = (domain("i2", -WIDEST, WIDEST), domain("i2", -1, 1), domain("i1k1", -WIDEST, WIDEST))
        self.check(node("add", (0, 1)), a, TooWide)
        self.check(node("sub", (0, 1)), a, TooWide)
        self.check(node("mul", (0, 0)), a, TooWide)
        self.check(node("sum", (0,), "i"), a, TooWide)
        self.check(node("dot", (0, 1), "i"), a, TooWide)
        self.check(node("fold", (0,), "k", "i", 1, 2), (domain("i2k1", 0, WIDEST),), TooWide)
        low = (domain("i2", -WIDEST, 0), domain("i2", 0, 1))
        self.check(node("sub", (0, 1)), low, TooWide)
        self.check(node("sum", (0,), "i"), low, TooWide)
        for one in (node("neg", (0,)), node("mul", (0, 1)), node("max", (0, 1)), node("peak", (0,), "i")):
            self.assertEqual(domain_of(one, a)[2], WIDEST)
        self.assertEqual(domain_of(node("fold", (2,), "i", "k", 1, 2), a)[1:], (-WIDEST, WIDEST))


if __name__ == "__main__":
    unittest.main()
