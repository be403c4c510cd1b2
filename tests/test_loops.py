"""Points 601 to 603."""

import unittest

from programs import apply, copy, drawn_program, form, guard, load, loop, number, pick, put, when
from tensorcompiler.errors import FormError, RangeError, TooLarge
from tensorcompiler.loops import check_program

ROLES = (("in", 4), ("main", 4), ("near", 4))
V = form(0, (0, 1))
FAR = 2 ** 200


def program(*body, buffers=ROLES):
    return (buffers, body)


def in_loop(*body):
    return loop(0, 4, *body)


def with_expr(expr):
    return in_loop(put(1, V, expr))


def nested(levels):
    """An expression with that many levels."""
    expr = number(1)
    for _ in range(levels - 1):
        expr = apply("neg", expr)
    return expr


def wrapped(statement, many, wrap):
    for k in range(many):
        statement = wrap(k, statement)
    return statement


def one_turn(k, statement):
    return loop(k, 1, statement)


def always(k, statement):
    return when(form(0), statement)


# Statements with an error of form each, for the buffers above.
BAD_FORMS = (
    (), ("odd",), ("odd", 1, 2), ("loop", 0, 0, 1, 4, ()), ("when", form(0), ()), ("number", 4),
    ("loop", 0, 0, 1, put(1, 0, number(1))), ("put", 1, form(0)),
    put(0, 0, number(1)), put(3, 0, number(1)), put(-1, 0, number(1)),
    copy(0, 0, 2, 0, 1), copy(1, 0, 1, 0, 1), copy(1, 0, 0, 0, 1), copy(2, 0, 2, 0, 1), copy(3, 0, 2, 0, 1),
    copy(2, 0, 3, 0, 1), copy(2, 0, -1, 0, 1), copy(-1, 0, 2, 0, 1),
    put(1, 0, ("odd", 1)), put(1, 0, ()), put(1, 0, ("put", 1, form(0), number(1))), put(1, 0, load(3, 0)),
    put(1, 0, load(-1, 0)), put(1, 0, pick(3, 0, 1, 1, number(0))), put(1, 0, pick(-1, 0, 1, 1, number(0))),
    put(1, 0, pick(1, 0, 1, 1, ("odd",))), put(1, 0, guard(0, ("odd",), number(0))),
    put(1, 0, guard(0, number(0), ("odd",))), put(1, 0, apply("neg", ("odd",))), put(1, 0, apply("odd", number(1))),
    put(1, 0, apply("sum", number(1), info=("k",))), put(1, 0, apply("order", number(1), info=("",))),
    put(1, 0, apply("input")), put(1, 0, apply("neg")), put(1, 0, apply("neg", number(1), number(1))),
    put(1, 0, apply("add", number(1))), put(1, 0, apply("where", number(1), number(2))),
    put(1, 0, apply("neg", number(1), info=(1,))), put(1, 0, apply("clamp", number(1), info=(1,))),
    put(1, 0, apply("shift", number(1), info=(1, 2))), put(1, 0, apply("clamp", number(1))),
    put(1, V, number(1)), when(V, put(1, 0, number(1))), copy(2, V, 1, 0, 1), copy(2, 0, 1, V, 1),
    put(1, 0, ("index", V)), put(1, 0, load(1, V)), put(1, 0, pick(1, V, 1, 1, number(0))),
    put(1, 0, guard(V, number(0), number(1))), put(1, 0, guard(0, number(0), load(1, V))),
    put(1, 0, apply("add", number(0), ("index", V))),
)

# The same, for statements inside of a loop over the variable 0 that is inside of one over the variable 3.
BAD_FORMS_INSIDE = (
    loop(0, 1, put(1, 0, number(1))), loop(3, 1, put(1, 0, number(1))), put(1, form(0, (0, 0)), number(1)),
    put(1, form(0, (3, 1), (0, 1)), number(1)), put(1, form(0, (0, 1), (0, 1)), number(1)),
    put(1, form(0, (1, 1)), number(1)), put(1, form(0, (0, 1), (1, 1), (3, 1)), number(1)),
    put(1, 0, ("index", form(0, (0, 1), (3, 0)))), put(1, 0, ("index", form(0, (-1, 1), (0, 1)))), loop(1, 2),
    when(form(0, (3, 1), (0, 1)), put(1, 0, number(1))),
)


class Forms(unittest.TestCase):
    def refuse(self, *body, buffers=ROLES):
        with self.assertRaises(FormError):
            check_program((buffers, body))

    def test_valid_programs(self):
        self.assertIsNone(check_program(((), ())))
        self.assertIsNone(check_program((ROLES, ())))
        for seed in range(40):
            self.assertIsNone(check_program(drawn_program(seed)))
            self.assertIsNone(check_program(drawn_program(seed, safe=False)))

    def test_roles(self):
        for role in ("out", "", "In", "MAIN"):
            self.refuse(buffers=(("in", 1), (role, 1)))

    def test_statements(self):
        for statement in BAD_FORMS:
            self.refuse(statement)
            self.refuse(put(1, 0, number(1)), when(form(0), loop(2, 1, statement)))
        inner = put(1, form(1, (0, 1), (3, 1)), ("index", form(0, (3, 1))))
        check_program(program(loop(3, 2, loop(0, 2, inner))))
        for statement in BAD_FORMS_INSIDE:
            self.refuse(loop(3, 2, loop(0, 2, inner, statement)))

    def test_each_kind_of_apply(self):
        counts = {"neg": 1, "clamp": 1, "shift": 1, "where": 3}
        fields = {"clamp": (0, 1), "shift": (1,)}
        for kind in ("add", "sub", "mul", "max", "min", "less", "equal", "neg", "clamp", "shift", "where"):
            count, info = counts.get(kind, 2), fields.get(kind, ())
            one = number(1)
            check_program(program(put(1, 0, apply(kind, *[one] * count, info=info))))
            self.refuse(put(1, 0, apply(kind, *[one] * (count + 1), info=info)))
            self.refuse(put(1, 0, apply(kind, *[one] * (count - 1), info=info)))
            self.refuse(put(1, 0, apply(kind, *[one] * count, info=info + (1,))))

    def test_copies_between_the_memories(self):
        for to, source in ((2, 0), (2, 1), (1, 2)):
            check_program(program(copy(to, 0, source, 0, 2)))

    def test_a_variable_again_in_another_loop(self):
        check_program(program(in_loop(put(1, V, number(1))), in_loop(put(1, V, number(1)))))
        self.refuse(in_loop(put(1, V, number(1))), put(1, V, number(1)))

    def test_forms_come_ahead_of_ranges_and_sizes(self):
        far = put(1, form(5000), number(1))
        deep = put(1, 0, nested(11))
        for statement in BAD_FORMS:
            self.refuse(far, deep, statement)
            self.refuse(statement, deep, far)
        self.refuse(in_loop(put(1, form(5000, (0, 0)), nested(11))))
        self.refuse(*BAD_FORMS[:1], buffers=(("in", 0),) * 1001)
        self.refuse(far, buffers=(("in", 0), ("main", 4), ("odd", 1)))


class Ranges(unittest.TestCase):
    def accept(self, *body, buffers=ROLES):
        self.assertIsNone(check_program((buffers, body)))

    def refuse(self, *body, buffers=ROLES):
        with self.assertRaises(RangeError):
            check_program((buffers, body))

    def test_sizes_of_buffers(self):
        for size in (1, 4096):
            self.accept(buffers=(("in", size), ("main", size), ("near", size)))
        for size in (0, -1, 4097):
            for role in ("in", "main", "near"):
                self.refuse(buffers=(("in", 1), (role, size)))

    def test_variables(self):
        one = put(1, 0, number(1))
        self.accept(loop(0, 1, one), loop(10 ** 9, 1, put(1, form(0, (10 ** 9, 1)), number(1))))
        self.refuse(loop(-1, 1, one))
        self.refuse(loop(-1, 1, put(1, form(0, (-1, 1)), number(1))))

    def test_counts_and_values_of_loops(self):
        one = put(1, 0, number(1))
        for start, step, count in (
                (0, 1, 1), (0, 1, 1000), (1, 1, 1000), (-1000, 2, 1000), (1000, -2, 1000), (1000, -2, 1001 - 1), (7, 0, 1000),
                (1000, 10 ** 9, 1), (-1000, -10 ** 9, 1), (-1000, 2000, 2), (1000, -2000, 2)):
            self.accept(loop(0, count, one, start=start, step=step))
        for start, step, count in (
                (0, 1, 0), (0, 1, -1), (0, 0, 1001), (1001, -1, 5), (-1001, 1, 5), (2, 1, 1000), (1, -1, 1000 + 1),
                (-1, -1, 1001), (-1000, 2001, 2), (1000, -2001, 2), (0, 1001, 2), (1001, 0, 1), (-1001, 0, 1), (-1, -2, 501)):
            self.refuse(loop(0, count, one, start=start, step=step))

    def test_affine_forms(self):
        for n in (4096, -4096):
            for place in (form(n), form(0, (0, n)), form(n, (0, n))):
                self.accept(in_loop(put(1, place, load(0, place))), in_loop(when(place, copy(2, place, 1, place, 1))))
                self.accept(with_expr(guard(place, ("index", place), pick(0, place, 1, 1, number(1)))))
        for n in (4097, -4097):
            for place in (form(n), form(0, (0, n))):
                self.refuse(in_loop(put(1, place, number(1))))
                self.refuse(in_loop(when(place, put(1, 0, number(1)))))
                self.refuse(in_loop(copy(2, place, 1, 0, 1)))
                self.refuse(in_loop(copy(2, 0, 1, place, 1)))
                for expr in (load(0, place), ("index", place), pick(0, place, 1, 1, number(1)),
                             guard(place, number(1), number(1)), apply("neg", ("index", place)),
                             guard(0, number(1), load(1, place)), guard(0, load(1, place), number(1)),
                             pick(0, 0, 1, 1, load(1, place))):
                    self.refuse(with_expr(expr))

    def test_counts_of_copies(self):
        for count in (1, 4096):
            self.accept(copy(2, 0, 1, 0, count))
        for count in (0, -1, 4097):
            self.refuse(copy(2, 0, 1, 0, count))

    def test_picks(self):
        for stride in (-4096, 0, 4096):
            for count in (1, 16):
                self.accept(with_expr(pick(0, 0, stride, count, number(0))))
        for stride, count in ((-4097, 1), (4097, 1), (1, 0), (1, -1), (1, 17)):
            self.refuse(with_expr(pick(0, 0, stride, count, number(0))))

    def test_fields(self):
        one = number(1)
        for low, high in ((-FAR, FAR), (FAR, FAR), (-FAR, -FAR), (3, 3)):
            self.accept(with_expr(apply("clamp", one, info=(low, high))))
        for low, high in ((-FAR - 1, FAR), (-FAR, FAR + 1), (4, 3), (FAR + 1, FAR + 1), (-FAR - 1, -FAR - 1)):
            self.refuse(with_expr(apply("clamp", one, info=(low, high))))
        for n in (1, 30):
            self.accept(with_expr(apply("shift", one, info=(n,))))
        for n in (0, 31, -1):
            self.refuse(with_expr(apply("shift", one, info=(n,))))
            self.refuse(with_expr(apply("neg", apply("shift", one, info=(n,)))))

    def test_numbers(self):
        for n in (FAR, -FAR, 0):
            self.accept(with_expr(number(n)))
        for n in (FAR + 1, -FAR - 1):
            self.refuse(with_expr(number(n)))
            self.refuse(with_expr(guard(0, number(0), number(n))))

    def test_ranges_come_ahead_of_sizes(self):
        deep = put(1, 0, nested(11))
        self.refuse(deep, put(1, form(4097), number(1)))
        self.refuse(put(1, form(4097), number(1)), deep)
        self.refuse(buffers=(("in", 4),) * 1001 + (("in", 4097),))
        self.refuse(loop(0, 1001, loop(1, 1000, loop(2, 1000, deep))))
        self.refuse(*[put(1, 0, number(1))] * 20001, loop(-1, 1, deep))


class Sizes(unittest.TestCase):
    def accept(self, *body, buffers=ROLES):
        self.assertIsNone(check_program((buffers, body)))

    def refuse(self, *body, buffers=ROLES):
        with self.assertRaises(TooLarge):
            check_program((buffers, body))

    def test_buffers(self):
        self.accept(buffers=(("in", 1),) * 1000)
        self.refuse(buffers=(("in", 1),) * 1001)

    def test_statements(self):
        one = copy(2, 0, 1, 0, 1)
        self.accept(*[one] * 20000)
        self.refuse(*[one] * 20001)
        self.accept(*[loop(0, 1, one)] * 10000)
        self.refuse(*[loop(0, 1, one)] * 10000, one)
        self.refuse(*[when(form(0), one)] * 10000, one)

    def test_parts(self):
        self.accept(*[put(1, 0, number(1))] * 10000)
        self.refuse(*[put(1, 0, number(1))] * 10001)
        ten = apply("add", pick(0, 0, 1, 1, number(1)), guard(0, number(1), apply("where", *[number(1)] * 3)))
        two = apply("neg", number(1))
        self.accept(*[put(1, 0, ten)] * 1110, *[put(1, 0, two)] * 5)
        self.accept(*[in_loop(put(1, 0, ten))] * 1111, put(1, 0, number(1)))
        self.refuse(*[in_loop(put(1, 0, ten))] * 1111, put(1, 0, two))

    def test_loops_around_a_loop(self):
        one = put(1, 0, number(1))
        self.accept(wrapped(one, 8, one_turn))
        self.refuse(wrapped(one, 9, one_turn))
        # A when around a loop does not count.
        self.accept(wrapped(when(form(0), loop(99, 1, one)), 7, one_turn))
        self.refuse(wrapped(when(form(0), loop(99, 1, one)), 8, one_turn))

    def test_statements_around_a_statement(self):
        one = put(1, 0, number(1))
        self.accept(wrapped(one, 10, always))
        self.refuse(wrapped(one, 11, always))
        self.accept(wrapped(wrapped(one, 8, one_turn), 2, always))
        self.refuse(wrapped(wrapped(one, 8, one_turn), 3, always))
        self.refuse(wrapped(copy(2, 0, 1, 0, 1), 11, always))

    def test_levels(self):
        self.accept(put(1, 0, nested(10)))
        self.refuse(put(1, 0, nested(11)))
        self.accept(put(1, 0, pick(0, 0, 1, 1, nested(9))))
        self.refuse(put(1, 0, pick(0, 0, 1, 1, nested(10))))
        for deep in (9, 10):
            for expr in (guard(0, nested(deep), number(1)), guard(0, number(1), nested(deep)),
                         apply("where", number(1), number(1), nested(deep))):
                (self.accept if deep == 9 else self.refuse)(in_loop(put(1, 0, expr)))

    def check_steps(self, statement, steps):
        """The statement has that many steps: so many fit into what is left of 4000000, and no more."""
        many = 1000
        rest = 4000000 - 1 - many * steps
        # A copy is as many steps as its count.
        filling = (loop(5, many, statement),) + (copy(2, 0, 1, 0, 4000),) * (rest // 4000)
        if rest % 4000:
            filling += (copy(2, 0, 1, 0, rest % 4000),)
        self.accept(*filling)
        self.refuse(*filling, copy(2, 0, 1, 0, 1))
        self.refuse(*filling, put(1, 0, number(1)))

    def test_steps(self):
        one = number(1)
        self.check_steps(put(1, 0, one), 2)
        self.check_steps(put(1, 0, apply("add", one, apply("neg", one))), 5)
        self.check_steps(put(1, 0, guard(0, one, apply("neg", one))), 5)
        self.check_steps(put(1, 0, pick(0, 0, 1, 16, one)), 19)
        self.check_steps(put(1, 0, pick(0, 0, 1, 16, pick(0, 0, 1, 3, one))), 23)
        self.check_steps(copy(2, 0, 1, 0, 7), 7)
        self.check_steps(loop(7, 9, put(1, 0, one), put(1, 0, one)), 37)
        self.check_steps(when(form(-1), put(1, 0, one), copy(2, 0, 1, 0, 7)), 10)
        self.check_steps(when(form(-1), loop(7, 9, put(1, 0, one))), 20)

    def test_many_steps(self):
        one = copy(2, 0, 1, 0, 3999)
        self.accept(loop(0, 1000, one))
        self.accept(loop(0, 1000, one), copy(2, 0, 1, 0, 999))
        self.refuse(loop(0, 1000, one), copy(2, 0, 1, 0, 1000))
        self.refuse(wrapped(put(1, 0, number(1)), 8, lambda k, inner: loop(k, 1000, inner)))


if __name__ == "__main__":
    unittest.main()
