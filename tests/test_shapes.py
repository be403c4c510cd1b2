"""Points 104 to 107."""

import unittest
from itertools import product

from making import shape_of
from tensorcompiler import shapes
from tensorcompiler.errors import AxisError, RangeError, RankError, TooLarge
from tensorcompiler.shapes import broadcast, check_shape, count_of, indexes, letters_of, offset


class Shapes(unittest.TestCase):
    def test_constants(self):
        self.assertEqual((shapes.RANK_LIMIT, shapes.SIZE_LIMIT, shapes.COUNT_LIMIT), (4, 16, 256))

    def test_valid_shapes(self):
        for word in ("", "a1", "z16", "i16j16", "i4j4k4m4", "i1j1k1m1", "b2a3", "i2j8k16"):
            self.assertIsNone(check_shape(shape_of(word)))

    def test_each_error(self):
        cases = (
            ("a1b1c1d1e1", RankError), ("i2i2", AxisError), ("i2j3i4", AxisError), ("i0", RangeError),
            ("i17", RangeError), ("i2j0", RangeError), ("i16j17", RangeError), ("i16j16k2", TooLarge),
            ("i16j15k2", TooLarge), ("i4j4k4m5", TooLarge),
        )
        for word, error in cases:
            with self.subTest(word):
                with self.assertRaises(error):
                    check_shape(shape_of(word))
        with self.assertRaises(RangeError):
            check_shape((("i", -1),))
        with self.assertRaises(RangeError):
            check_shape((("i", -2), ("j", -3)))

    def test_which_error_comes_first(self):
        cases = (
            ("a1a1c1d0e1", RankError), ("a16b16c16d16e16", RankError), ("i0i2", AxisError), ("j17i2j3", AxisError),
            ("i16i16j16", AxisError), ("i16j16k17", RangeError), ("k0i16j16m16", RangeError),
        )
        for word, error in cases:
            with self.subTest(word):
                with self.assertRaises(error):
                    check_shape(shape_of(word))

    def test_counts_and_letters(self):
        self.assertEqual(count_of(()), 1)
        self.assertEqual(count_of(shape_of("i2k3")), 6)
        self.assertEqual(count_of(shape_of("i16j16k16m16a16")), 16 ** 5)
        self.assertEqual(count_of((("i", -2), ("j", 3))), -6)
        self.assertEqual(count_of(shape_of("i0j3")), 0)
        self.assertEqual(letters_of(()), "")
        self.assertEqual(letters_of(shape_of("k2a3b1")), "kab")


class Broadcasts(unittest.TestCase):
    def test_the_example(self):
        self.assertEqual(
            broadcast((("i", 2), ("k", 3)), (("k", 3), ("j", 4))), (("i", 2), ("k", 3), ("j", 4)))

    def test_orders(self):
        cases = (
            ("", "", ""), ("i2", "", "i2"), ("", "i2j3", "i2j3"), ("i2j3", "j3i2", "i2j3"), ("j3i2", "i2j3", "j3i2"),
            ("k2", "j3k2i4", "k2j3i4"), ("i1", "i1j1", "i1j1"), ("a2b2", "d2c2", "a2b2d2c2"),
        )
        for first, second, both in cases:
            self.assertEqual(broadcast(shape_of(first), shape_of(second)), shape_of(both))

    def test_errors(self):
        cases = (
            ("i2", "i3", AxisError), ("i2", "i1", AxisError), ("i1", "i2", AxisError), ("i2j3", "k2j2", AxisError),
            ("a1b1c1", "d1e1", RankError), ("i16j16", "k2", TooLarge), ("i16", "j16k16", TooLarge),
            # An axis with two sizes comes before the errors of the result.
            ("a1b1c1d1", "a2e1", AxisError), ("i16j16", "k2j2", AxisError), ("a4b4c4d4", "e4d3", AxisError),
            ("a4b4c4d4", "e4", RankError),
        )
        for first, second, error in cases:
            with self.subTest((first, second)):
                with self.assertRaises(error):
                    broadcast(shape_of(first), shape_of(second))


class Positions(unittest.TestCase):
    def test_the_example(self):
        self.assertEqual(offset((("i", 2), ("k", 3)), (1, 0)), 3)

    def test_all_positions(self):
        for word in ("", "i1", "i5", "i2k3", "k3i2", "i2j3k4", "i1j4k1m3", "a16b16", "a2b1c3d2"):
            shape = shape_of(word)
            rows = list(product(*[range(size) for _, size in shape]))
            self.assertEqual(len(rows), count_of(shape))
            for position, at in enumerate(rows):
                self.assertEqual(offset(shape, at), position)
                self.assertEqual(indexes(shape, position), at)

    def test_the_empty_shape(self):
        self.assertEqual(offset((), ()), 0)
        self.assertEqual(indexes((), 0), ())


if __name__ == "__main__":
    unittest.main()
