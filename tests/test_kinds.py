"""Points 201 and 202, as far as they speak of kinds and of single elements."""

import unittest

from reference import POINTWISE, pointwise_element
from tensorcompiler import kinds
from tensorcompiler.kinds import KINDS, pointwise


class Kinds(unittest.TestCase):
    def test_constants(self):
        self.assertEqual((kinds.NODE_LIMIT, kinds.WORK_LIMIT, kinds.WIDTH_LIMIT), (400, 50000, 200))
        self.assertEqual(KINDS, (
            "input", "const", "add", "sub", "mul", "max", "min", "less", "equal", "neg", "clamp", "shift", "where",
            "sum", "peak", "dot", "order", "rename", "spread", "cut", "pad", "join", "window", "fold", "gather"))

    def test_the_tables_have_all_kinds(self):
        self.assertEqual(tuple(kinds.FIELDS), KINDS)
        self.assertEqual(tuple(kinds.ARG_COUNTS), KINDS)
        self.assertEqual(kinds.POINTWISE, KINDS[2:13])


class Pointwise(unittest.TestCase):
    def test_the_example(self):
        self.assertEqual(pointwise("shift", (-3,), (1,)), -1)

    def test_two_args(self):
        for kind in ("add", "sub", "mul", "max", "min", "less", "equal"):
            for a in (-7, -1, 0, 1, 5, 2 ** 300):
                for b in (-7, -2, 0, 1, 6, 2 ** 300):
                    self.assertEqual(pointwise(kind, (a, b), ()), pointwise_element(kind, (a, b), ()))
        self.assertEqual(pointwise("sub", (2, 5), ()), -3)
        self.assertEqual(pointwise("less", (2, 2), ()), 0)
        self.assertEqual(pointwise("less", (1, 2), ()), 1)
        self.assertEqual(pointwise("equal", (2, 2), ()), 1)
        self.assertIs(type(pointwise("less", (1, 2), ())), int)
        self.assertIs(type(pointwise("equal", (1, 2), ())), int)

    def test_neg(self):
        self.assertEqual([pointwise("neg", (a,), ()) for a in (-3, 0, 4)], [3, 0, -4])

    def test_clamp(self):
        self.assertEqual([pointwise("clamp", (a,), (-2, 3)) for a in (-9, -3, -2, 0, 3, 4, 99)],
                         [-2, -2, -2, 0, 3, 3, 3])
        self.assertEqual(pointwise("clamp", (5,), (7, 7)), 7)

    def test_shift_rounds_a_half_up(self):
        self.assertEqual([pointwise("shift", (a,), (1,)) for a in range(-5, 6)],
                         [-2, -2, -1, -1, 0, 0, 1, 1, 2, 2, 3])
        self.assertEqual([pointwise("shift", (a,), (2,)) for a in range(-7, 8)],
                         [-2, -1, -1, -1, -1, 0, 0, 0, 0, 1, 1, 1, 1, 2, 2])
        for n in (1, 2, 7, 30):
            for a in (-2 ** 70 - 1, -2 ** 29, -2 ** 29 - 1, 2 ** 29, 2 ** 29 - 1, 12345678901234567890):
                self.assertEqual(pointwise("shift", (a,), (n,)), pointwise_element("shift", (a,), (n,)))

    def test_where(self):
        self.assertEqual([pointwise("where", (c, 10, 20), ()) for c in (-1, 0, 1, 7)], [10, 20, 10, 10])

    def test_the_pointwise_kinds(self):
        self.assertEqual(POINTWISE, KINDS[2:13])


if __name__ == "__main__":
    unittest.main()
