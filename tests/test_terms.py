"""Points 501 to 504."""

import unittest
from random import Random

import normal_forms
from reference import pointwise_element
from tensorcompiler.errors import FormError, RangeError, TooWide
from tensorcompiler.terms import VALUE_LIMIT, Terms

TOP = 2 ** 20000


class Base(unittest.TestCase):
    def setUp(self):
        self.table = Terms()
        self.x = self.table.variable((0,), -3, 3)
        self.y = self.table.variable((1,), 0, 9)
        self.z = self.table.variable((2,), 5, 8)

    def n(self, n):
        return self.table.number(n)

    def make(self, kind, *ids, info=()):
        return self.table.make(kind, ids, info)

    def plus(self, *ids):
        total = ids[0]
        for one in ids[1:]:
            total = self.make("add", total, one)
        return total

    def times(self, term, n):
        return self.make("mul", term, self.n(n))

    def span(self, term):
        return self.table.span(term)

    def known(self, term, n):
        """The term is the number n."""
        self.assertEqual(term, self.n(n))
        self.assertEqual(self.span(term), (n, n))


class Tables(Base):
    def test_the_examples(self):
        table = Terms()
        x = table.variable((0,), -3, 3)
        y = table.variable((1,), 0, 9)
        self.assertTrue(table.make("sub", (table.make("add", (x, y), ()), x), ()) == y)
        table = Terms()
        x = table.variable((0,), -3, 3)
        self.assertEqual(table.span(table.make("mul", (x, table.number(-2)), ())), (-6, 6))
        self.assertEqual(VALUE_LIMIT, 20000)

    def test_ids_are_below_the_length(self):
        table = Terms()
        self.assertEqual(len(table), 0)
        ids = [table.number(5), table.variable((0,), 0, 1), table.variable((0, 1), 7, 7)]
        ids.append(table.make("add", (ids[0], ids[1]), ()))
        ids.append(table.make("add", (ids[0], ids[0]), ()))
        ids.append(table.pick((ids[0], ids[3]), ids[1]))
        for one in ids:
            self.assertTrue(0 <= one < len(table))
        before = len(table)
        self.assertEqual(table.make("add", (ids[1], ids[0]), ()), ids[3])
        self.assertEqual(table.number(5), ids[0])
        self.assertEqual(len(table), before)
        self.assertEqual(len(Terms()), 0)

    def test_numbers(self):
        self.assertEqual(self.n(7), self.n(7))
        self.assertNotEqual(self.n(7), self.n(-7))
        self.assertEqual(self.span(self.n(-7)), (-7, -7))
        # A number has no bounds.
        self.assertEqual(self.span(self.n(TOP * 8)), (TOP * 8, TOP * 8))

    def test_variables(self):
        self.assertEqual(self.table.variable((0,), -3, 3), self.x)
        self.assertEqual(self.span(self.x), (-3, 3))
        self.assertNotEqual(self.table.variable((0, 0), -3, 3), self.x)
        self.assertNotEqual(self.table.variable((), -3, 3), self.x)
        self.assertEqual(self.span(self.table.variable((9,), -TOP * 4, TOP * 4)), (-TOP * 4, TOP * 4))

    def test_a_variable_with_another_interval(self):
        for low, high in ((-3, 4), (-2, 3), (3, 3)):
            with self.assertRaises(FormError):
                self.table.variable((0,), low, high)
        self.assertEqual(self.table.variable((0,), -3, 3), self.x)

    def test_a_variable_with_one_value(self):
        self.known(self.table.variable((5,), 4, 4), 4)
        self.known(self.table.variable((6,), 4, 4), 4)
        self.known(self.table.variable((5,), 4, 4), 4)
        for low, high in ((4, 5), (3, 4), (5, 5)):
            with self.assertRaises(FormError):
                self.table.variable((5,), low, high)

    def test_a_variable_without_a_value(self):
        with self.assertRaises(RangeError):
            self.table.variable((7,), 1, 0)
        # It comes ahead of the other error, and leaves no variable behind.
        with self.assertRaises(RangeError):
            self.table.variable((0,), 3, -3)
        self.assertEqual(self.span(self.table.variable((7,), 0, 1)), (0, 1))


class Sums(Base):
    def test_regrouped(self):
        x, y, z = self.x, self.y, self.z
        one = self.plus(x, self.plus(y, z))
        self.assertEqual(one, self.plus(self.plus(z, x), y))
        self.assertEqual(one, self.make("sub", self.plus(x, y), self.make("neg", z)))
        self.assertEqual(self.span(one), (2, 20))
        self.assertNotEqual(one, self.plus(x, y))
        self.assertNotEqual(one, self.plus(one, self.n(1)))
        self.assertEqual(one, self.plus(one, self.n(0)))

    def test_doubled(self):
        twice = self.plus(self.x, self.x)
        self.assertEqual(twice, self.times(self.x, 2))
        self.assertEqual(self.span(twice), (-6, 6))
        self.assertEqual(self.plus(twice, self.y, self.x), self.plus(self.y, self.times(self.x, 3)))
        self.assertEqual(self.plus(self.n(2), self.n(3)), self.n(5))

    def test_cancelled(self):
        x, y = self.x, self.y
        self.known(self.make("sub", x, x), 0)
        self.assertEqual(self.make("sub", self.plus(x, y), x), y)
        self.assertEqual(self.make("sub", self.plus(x, y, self.n(4)), y), self.plus(self.n(4), x))
        self.known(self.plus(self.make("neg", x), self.n(4), x), 4)
        # The interval is that of the sum that remains.
        rest = self.make("sub", self.times(x, 5), self.plus(self.times(x, 3), y))
        self.assertEqual(self.span(rest), (-15, 6))
        self.assertEqual(rest, self.make("sub", self.plus(x, x), y))
        self.assertEqual(self.make("sub", self.times(x, 2), x), x)
        self.assertEqual(self.span(self.make("sub", self.times(x, 2), self.times(x, 3))), (-3, 3))

    def test_numbers_and_negatives(self):
        x, y = self.x, self.y
        self.assertEqual(self.make("neg", self.make("neg", x)), x)
        self.assertEqual(self.make("neg", self.make("sub", x, y)), self.make("sub", y, x))
        self.assertEqual(self.span(self.make("sub", x, y)), (-12, 3))
        self.assertEqual(self.span(self.make("neg", y)), (-9, 0))
        self.assertEqual(self.make("sub", self.n(0), y), self.make("neg", y))
        self.assertEqual(self.span(self.plus(y, self.n(-5))), (-5, 4))
        self.known(self.make("neg", self.n(6)), -6)
        self.known(self.make("sub", self.n(6), self.n(9)), -3)


class Products(Base):
    def test_with_a_number(self):
        x, y = self.x, self.y
        both = self.plus(x, self.times(y, 2), self.n(1))
        wanted = self.plus(self.times(x, -3), self.times(y, -6), self.n(-3))
        self.assertEqual(self.make("mul", both, self.n(-3)), wanted)
        self.assertEqual(self.make("mul", self.n(-3), both), wanted)
        self.assertEqual(self.span(wanted), (-66, 6))
        self.known(self.make("mul", self.n(-3), self.n(5)), -15)
        self.assertEqual(self.times(x, 1), x)

    def test_with_nought(self):
        for term in (self.x, self.plus(self.x, self.y), self.make("mul", self.x, self.y), self.n(8), self.n(0)):
            self.known(self.make("mul", term, self.n(0)), 0)
            self.known(self.make("mul", self.n(0), term), 0)

    def test_of_two_terms(self):
        x, y, z = self.x, self.y, self.z
        one = self.make("mul", x, y)
        self.assertEqual(self.make("mul", y, x), one)
        self.assertEqual(self.span(one), (-27, 27))
        self.assertEqual(self.span(self.make("mul", x, x)), (-9, 9))
        self.assertEqual(self.span(self.make("mul", y, z)), (0, 72))
        # A product is not multiplied out, and factors stay inside of it.
        self.assertNotEqual(self.make("mul", one, z), self.make("mul", x, self.make("mul", y, z)))
        self.assertNotEqual(self.make("mul", self.times(x, 2), y), self.times(one, 2))
        self.assertNotEqual(self.make("mul", x, self.plus(y, z)), self.plus(one, self.make("mul", x, z)))
        self.assertEqual(self.plus(one, self.make("mul", y, x)), self.times(one, 2))


class Extremes(Base):
    def test_members_of_the_same_kind(self):
        x, y, z = self.x, self.y, self.z
        for kind in ("max", "min"):
            one = self.make(kind, self.make(kind, x, y), self.make(kind, z, x))
            self.assertEqual(one, self.make(kind, y, self.make(kind, x, z)))
            self.assertEqual(one, self.make(kind, one, y))
            self.assertNotEqual(one, self.make(kind, x, y))
            other = self.make("min" if kind == "max" else "max", x, y)
            self.assertNotEqual(self.make(kind, other, z), self.make(kind, self.make(kind, x, y), z))
        self.assertEqual(self.span(self.make("max", x, y)), (0, 9))
        self.assertEqual(self.span(self.make("min", x, y)), (-3, 3))
        self.assertEqual(self.span(self.make("max", self.make("max", x, z), y)), (5, 9))
        self.assertEqual(self.span(self.make("min", self.make("min", x, z), y)), (-3, 3))
        self.assertNotEqual(self.make("max", x, y), self.make("min", x, y))

    def test_several_numbers(self):
        x, n = self.x, self.n
        one = self.make("max", self.make("max", x, n(1)), n(-1))
        self.assertEqual(one, self.make("max", n(1), x))
        self.assertEqual(self.span(one), (1, 3))
        self.assertEqual(self.make("max", self.make("max", n(-1), x), self.make("max", x, n(1))), one)
        one = self.make("min", self.make("min", x, n(1)), n(-1))
        self.assertEqual(one, self.make("min", x, n(-1)))
        self.assertEqual(self.span(one), (-3, -1))
        # A number that never counts is a member all the same.
        self.assertNotEqual(self.make("max", x, n(-5)), x)
        self.assertNotEqual(self.make("max", x, n(-5)), self.make("max", x, n(-6)))
        self.assertEqual(self.span(self.make("max", x, n(-5))), (-3, 3))
        self.known(self.make("max", n(4), n(7)), 7)
        self.known(self.make("min", n(4), n(7)), 4)

    def test_one_member_left(self):
        for kind in ("max", "min"):
            self.assertEqual(self.make(kind, self.x, self.x), self.x)
            self.known(self.make(kind, self.n(4), self.n(4)), 4)

    def test_one_number_left(self):
        self.known(self.make("max", self.x, self.n(3)), 3)
        self.known(self.make("max", self.n(30), self.x), 30)
        self.known(self.make("min", self.x, self.n(-3)), -3)
        self.known(self.make("min", self.make("min", self.x, self.y), self.n(-4)), -4)


class Comparisons(Base):
    def test_less(self):
        x, y, z = self.x, self.y, self.z
        self.known(self.make("less", x, z), 1)
        self.known(self.make("less", z, x), 0)
        self.known(self.make("less", x, x), 0)
        self.known(self.make("less", x, self.n(4)), 1)
        self.known(self.make("less", x, self.n(-3)), 0)
        self.known(self.make("less", self.n(3), x), 0)
        for one, other in ((x, self.n(3)), (x, self.n(-2)), (self.n(2), x), (self.n(-3), x), (x, y), (y, x), (y, z)):
            self.assertEqual(self.span(self.make("less", one, other)), (0, 1))
        self.assertNotEqual(self.make("less", x, y), self.make("less", y, x))
        self.assertEqual(self.make("less", self.plus(x, y), z), self.make("less", self.plus(y, x), z))

    def test_equal(self):
        x, y, z = self.x, self.y, self.z
        self.known(self.make("equal", x, x), 1)
        self.known(self.make("equal", self.n(2), self.n(2)), 1)
        self.known(self.make("equal", x, z), 0)
        self.known(self.make("equal", z, x), 0)
        self.known(self.make("equal", x, self.n(4)), 0)
        self.known(self.make("equal", self.n(-4), x), 0)
        for one, other in ((x, self.n(3)), (x, self.n(-3)), (x, y), (y, z)):
            term = self.make("equal", one, other)
            self.assertEqual(self.span(term), (0, 1))
            self.assertEqual(self.make("equal", other, one), term)
        self.assertNotEqual(self.make("equal", x, y), self.make("less", x, y))


class Others(Base):
    def test_clamp(self):
        x = self.x
        self.assertEqual(self.make("clamp", x, info=(-3, 3)), x)
        self.assertEqual(self.make("clamp", x, info=(-9, 9)), x)
        for low, high, span in ((-2, 3, (-2, 3)), (-3, 2, (-3, 2)), (0, 9, (0, 3)), (-9, -1, (-3, -1))):
            self.assertEqual(self.span(self.make("clamp", x, info=(low, high))), span)
        self.known(self.make("clamp", x, info=(3, 9)), 3)
        self.known(self.make("clamp", x, info=(5, 9)), 5)
        self.known(self.make("clamp", x, info=(-9, -5)), -5)
        self.known(self.make("clamp", x, info=(1, 1)), 1)
        self.known(self.make("clamp", self.n(7), info=(1, 2)), 2)
        self.assertNotEqual(self.make("clamp", x, info=(-2, 3)), self.make("clamp", x, info=(-2, 4)))
        inner = self.make("clamp", x, info=(-2, 2))
        self.assertEqual(self.make("clamp", inner, info=(-2, 2)), inner)
        self.assertNotEqual(self.make("clamp", inner, info=(-1, 1)), self.make("clamp", x, info=(-1, 1)))

    def test_shift(self):
        self.assertEqual(self.span(self.make("shift", self.x, info=(1,))), (-1, 2))
        self.assertEqual(self.span(self.make("shift", self.y, info=(2,))), (0, 2))
        self.known(self.make("shift", self.n(-5), info=(1,)), -2)
        self.known(self.make("shift", self.x, info=(3,)), 0)
        self.assertNotEqual(self.make("shift", self.y, info=(1,)), self.make("shift", self.y, info=(2,)))

    def test_where(self):
        x, y, z = self.x, self.y, self.z
        self.assertEqual(self.make("where", z, x, y), x)
        self.assertEqual(self.make("where", self.make("neg", z), x, y), x)
        self.assertEqual(self.make("where", self.n(-1), x, y), x)
        self.assertEqual(self.make("where", self.n(0), x, y), y)
        self.assertEqual(self.make("where", x, y, y), y)
        one = self.make("where", x, y, self.n(-1))
        self.assertEqual(self.span(one), (-1, 9))
        self.assertEqual(self.span(self.make("where", y, z, x)), (-3, 8))
        self.assertNotEqual(self.make("where", x, self.n(-1), y), one)
        self.assertNotEqual(self.make("where", y, y, self.n(-1)), one)
        self.known(self.make("where", x, self.n(5), self.n(5)), 5)


class Widths(Base):
    def wide(self, low, high):
        return self.table.variable((100, low, high), low, high)

    def refuse(self, kind, *ids, info=()):
        with self.assertRaises(TooWide):
            self.make(kind, *ids, info=info)

    def test_both_ends(self):
        up, down = self.wide(0, TOP), self.wide(-TOP, 0)
        self.assertEqual(self.span(self.plus(up, self.n(0))), (0, TOP))
        self.assertEqual(self.span(self.make("neg", up)), (-TOP, 0))
        self.assertEqual(self.span(self.make("sub", down, self.n(0))), (-TOP, 0))
        self.assertEqual(self.span(self.plus(up, down)), (-TOP, TOP))
        self.refuse("add", up, self.n(1))
        self.refuse("sub", down, self.n(1))
        self.refuse("add", up, up)
        self.refuse("sub", down, up)
        self.refuse("mul", up, self.n(2))
        self.refuse("mul", up, self.n(-2))
        self.refuse("mul", up, self.x)
        self.refuse("mul", down, self.y)
        self.refuse("neg", self.wide(-TOP - 1, 0))
        self.refuse("max", up, self.wide(-1, TOP + 1))
        self.refuse("min", down, self.wide(-TOP - 1, 1))
        self.refuse("shift", self.wide(0, 4 * TOP), info=(1,))
        self.refuse("where", self.x, up, self.wide(-TOP - 1, 1))
        self.assertEqual(self.span(self.make("shift", self.wide(-2 * TOP, 2 * TOP), info=(1,))), (-TOP, TOP))

    def test_numbers(self):
        self.known(self.plus(self.n(TOP - 1), self.n(1)), TOP)
        self.known(self.make("sub", self.n(-TOP + 1), self.n(1)), -TOP)
        self.refuse("add", self.n(TOP), self.n(1))
        self.refuse("sub", self.n(-TOP), self.n(1))
        self.refuse("neg", self.n(TOP + 1))
        self.known(self.make("mul", self.n(2 ** 10000), self.n(-2 ** 10000)), -TOP)
        self.refuse("mul", self.n(2 ** 10000), self.n(2 ** 10001))

    def test_a_term_that_stays_what_it_is(self):
        beyond = self.wide(0, TOP + 1)
        self.refuse("where", self.n(1), beyond, self.x)
        self.refuse("max", beyond, beyond)
        self.refuse("clamp", beyond, info=(-1, 4 * TOP))
        self.refuse("add", beyond, self.n(0))
        self.known(self.make("less", beyond, beyond), 0)
        self.known(self.make("sub", beyond, beyond), 0)
        self.assertEqual(self.span(self.make("clamp", beyond, info=(-1, 1))), (0, 1))

    def test_after_an_error_all_is_as_before(self):
        up = self.wide(0, TOP)
        for _ in range(2):
            self.refuse("add", up, up)
        self.assertEqual(self.make("sub", self.plus(up, self.n(-3), self.x), up), self.plus(self.x, self.n(-3)))


class Picks(Base):
    def setUp(self):
        super().setUp()
        # a has the values 0 to 2.
        self.a = self.table.variable((10,), 0, 2)
        self.b = self.table.variable((11,), 0, 1)
        self.row = (self.x, self.y, self.z, self.n(20), self.n(-7))

    def pick(self, ids, index):
        return self.table.pick(tuple(ids), index)

    def test_a_known_index(self):
        for place, one in enumerate(self.row):
            self.assertEqual(self.pick(self.row, self.n(place)), one)
        self.assertEqual(self.pick((self.x,), self.n(0)), self.x)

    def test_the_interval_of_the_index(self):
        self.pick(self.row[:3], self.a)
        self.pick(self.row, self.plus(self.a, self.n(2)))
        for index in (self.plus(self.a, self.n(-1)), self.plus(self.a, self.n(3)), self.x, self.n(-1), self.n(5)):
            with self.assertRaises(FormError):
                self.pick(self.row, index)
        with self.assertRaises(FormError):
            self.pick(self.row[:2], self.a)

    def test_the_interval_of_the_result(self):
        self.assertEqual(self.span(self.pick(self.row, self.a)), (-3, 9))
        self.assertEqual(self.span(self.pick(self.row, self.plus(self.a, self.n(2)))), (-7, 20))
        self.assertEqual(self.span(self.pick(self.row, self.plus(self.b, self.n(2)))), (5, 20))

    def test_rows_that_are_padded_at_both_ends(self):
        one = self.pick(self.row[:3], self.a)
        padded = (self.n(99), self.x) + self.row
        self.assertEqual(self.pick(padded, self.plus(self.a, self.n(2))), one)
        self.assertNotEqual(self.pick(padded, self.plus(self.a, self.n(1))), one)
        self.assertEqual(self.pick(self.row, self.a), one)

    def test_rows_that_are_reversed(self):
        one = self.pick(self.row[:3], self.a)
        back = self.make("sub", self.n(2), self.a)
        self.assertEqual(self.pick(self.row[2::-1], back), one)
        self.assertEqual(self.pick((self.y,) + self.row[2::-1] + (self.n(4),), self.plus(back, self.n(1))), one)
        self.assertNotEqual(self.pick(self.row[:3], back), one)

    def test_factors_with_a_common_divisor(self):
        one = self.pick(self.row[:3], self.a)
        gaps = (self.x, self.n(1), self.y, self.n(2), self.z)
        self.assertEqual(self.pick(gaps, self.times(self.a, 2)), one)
        self.assertEqual(self.pick(gaps[::-1], self.make("sub", self.n(4), self.times(self.a, 2))), one)
        # 4 a + 6 b goes in steps of 2, and its V is 2 a + 3 b.
        both = self.plus(self.times(self.a, 4), self.times(self.b, 6))
        row = tuple(self.plus(self.x, self.n(k)) for k in range(8))
        wide = tuple(one for k in range(8) for one in (row[k], self.n(50)))
        half = self.plus(self.times(self.a, 2), self.times(self.b, 3))
        self.assertEqual(self.pick(wide, both), self.pick(row, half))
        self.assertEqual(self.pick(wide[1:], both), self.n(50))
        self.assertEqual(self.span(self.pick(wide, both)), (-3, 10))

    def test_a_sum_whose_first_factor_is_negative(self):
        one = self.make("sub", self.b, self.a)
        row = self.row[:4]
        forward = self.pick(row, self.plus(one, self.n(2)))
        back = self.pick(row[::-1], self.plus(self.make("neg", one), self.n(1)))
        self.assertEqual(forward, back)

    def test_choices_that_are_all_the_same(self):
        self.assertEqual(self.pick((self.y,) * 3, self.a), self.y)
        self.assertEqual(self.pick((self.x, self.y, self.y, self.y, self.z), self.plus(self.a, self.n(1))), self.y)
        self.assertEqual(self.pick((self.x, self.z, self.x, self.y, self.x), self.times(self.a, 2)), self.x)
        self.known(self.pick((self.n(4),) * 3, self.a), 4)

    def test_choices_with_an_equal_interval_stay(self):
        one = self.pick((self.n(1), self.n(2), self.n(1)), self.a)
        self.assertEqual(self.span(one), (1, 2))
        self.assertNotEqual(one, self.pick((self.n(1), self.n(2), self.n(2)), self.a))

    def test_another_index(self):
        other = self.table.variable((12,), 0, 2)
        self.assertNotEqual(self.pick(self.row, self.a), self.pick(self.row, other))


class RandomTerms(unittest.TestCase):
    KINDS = ("add", "sub", "mul", "max", "min", "less", "equal", "neg", "clamp", "shift", "where")
    COUNTS = {"neg": 1, "clamp": 1, "shift": 1, "where": 3}

    def fields(self, random, kind):
        if kind == "clamp":
            return tuple(sorted((random.randint(-6, 6), random.randint(-6, 6))))
        return (random.randint(1, 3),) if kind == "shift" else ()

    def test_the_same_id_exactly_for_the_same_normal_form(self):
        met = 0
        for seed in range(60):
            random = Random(seed)
            table = Terms()
            ids, forms = [], []
            for k in range(3):
                low = random.randint(-4, 2)
                high = low + random.randint(0, 5)
                ids.append(table.variable((k,), low, high))
                forms.append(normal_forms.variable((k,), low, high))
            for n in (0, 1, -1, 2, random.randint(-9, 9)):
                ids.append(table.number(n))
                forms.append(normal_forms.number(n))
            for _ in range(70):
                kind = random.choice(self.KINDS)
                places = [random.randrange(len(ids)) for _ in range(self.COUNTS.get(kind, 2))]
                info = self.fields(random, kind)
                ids.append(table.make(kind, tuple(ids[place] for place in places), info))
                forms.append(normal_forms.made(kind, tuple(forms[place] for place in places), info))
            self.assertEqual([table.span(one) for one in ids], [form[1:] for form in forms])
            self.assertEqual(len(set(ids)), len(set(forms)))
            self.assertEqual(len(set(zip(ids, forms))), len(set(ids)))
            met += len(ids) - len(set(ids))
        self.assertGreater(met, 500)

    def test_values(self):
        for seed in range(60):
            random = Random(seed)
            table = Terms()
            spans = {(k,): (random.randint(-4, 0), random.randint(0, 5)) for k in range(4)}
            ids = [table.variable(key, low, high) for key, (low, high) in spans.items()]
            ids.append(table.number(3))
            cases = [{key: random.choice((low, high, random.randint(low, high))) for key, (low, high) in spans.items()}
                     for _ in range(4)]
            cases += [{key: span[end] for key, span in spans.items()} for end in (0, 1)]
            values = [[case[key] for case in cases] for key in spans] + [[3] * len(cases)]
            for _ in range(60):
                kind = random.choice(self.KINDS + ("pick",))
                if kind == "pick":
                    row = [random.randrange(len(ids)) for _ in range(random.randint(1, 6))]
                    index = random.randrange(len(ids))
                    clamped = table.make("clamp", (ids[index],), (0, len(row) - 1))
                    ids.append(table.pick(tuple(ids[place] for place in row), clamped))
                    found = [values[row[max(0, min(values[index][k], len(row) - 1))]][k] for k in range(len(cases))]
                else:
                    places = [random.randrange(len(ids)) for _ in range(self.COUNTS.get(kind, 2))]
                    info = self.fields(random, kind)
                    ids.append(table.make(kind, tuple(ids[place] for place in places), info))
                    found = [pointwise_element(kind, [values[place][k] for place in places], info)
                             for k in range(len(cases))]
                values.append(found)
            for one, wanted in zip(ids, values):
                low, high = table.span(one)
                for case, n in zip(cases, wanted):
                    before = dict(case)
                    self.assertEqual(table.value(one, case), n)
                    self.assertEqual(case, before)
                    self.assertTrue(low <= n <= high)


class Values(Base):
    def test_each_kind_at_the_ends(self):
        table, x, y, z = self.table, self.x, self.y, self.z
        pick = table.pick((x, y, z, table.number(50)), table.make("clamp", (y,), (0, 3)))
        for a in (-3, 0, 3):
            for b in (0, 2, 9):
                values = {(0,): a, (1,): b, (2,): 6}
                for term, wanted in (
                        (self.n(4), 4), (x, a), (self.plus(x, y, self.n(1)), a + b + 1), (self.make("mul", x, y), a * b),
                        (self.make("max", x, y), max(a, b)), (self.make("min", x, y), min(a, b)),
                        (self.make("less", x, y), int(a < b)), (self.make("equal", x, y), int(a == b)),
                        (self.make("clamp", x, info=(-1, 2)), max(-1, min(a, 2))), (self.times(x, -5), -5 * a),
                        (self.make("shift", x, info=(1,)), (a + 1) // 2), (self.make("where", x, y, z), b if a else 6),
                        (pick, (a, b, 6, 50)[min(b, 3)])):
                    self.assertEqual(table.value(term, values), wanted)

    def test_only_the_variables_of_the_term_are_asked_for(self):
        self.assertEqual(self.table.value(self.plus(self.x, self.n(2)), {(0,): 3}), 5)
        self.assertEqual(self.table.value(self.n(2), {}), 2)
        self.assertEqual(self.table.value(self.make("sub", self.plus(self.x, self.y), self.x), {(1,): 4}), 4)

    def test_long_rows_of_terms(self):
        term = self.x
        for k in range(5000):
            term = self.make("clamp", self.plus(term, self.y), info=(-k - 10, k + 10))
        self.assertEqual(self.table.value(term, {(0,): -3, (1,): 0}), -3)


if __name__ == "__main__":
    unittest.main()
