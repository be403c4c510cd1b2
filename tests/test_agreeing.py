"""Points 605 and 606."""

import unittest
from random import Random

from programs import BUFFERS, Plain, apply, copy, drawn_program, drawn_words, form, guard, load, loop, number, pick, put, when
from tensorcompiler.agreeing import agree, program_terms
from tensorcompiler.errors import (
    FeedError, FormError, RangeError, TensorError, TooLarge, TooWide, UnsetWord)
from tensorcompiler.running import run_program
from tensorcompiler.terms import Terms

TOP = 2 ** 20000
FAR = 2 ** 200
ROLES = (("in", 4), ("main", 4), ("near", 4))
V = form(0, (0, 1))


def variables(table, buffers, low, high):
    given = []
    for role, size in buffers:
        if role == "in":
            given.append(tuple(table.variable((len(given), e), low, high) for e in range(size)))
    return tuple(given)


def values_of(given):
    return {(k, e): n for k, words in enumerate(given) for e, n in enumerate(words)}


class Running(unittest.TestCase):
    def setUp(self):
        self.table = Terms()
        self.given = variables(self.table, ROLES, -9, 9)

    def run_it(self, *body, given=None):
        return program_terms(self.table, (ROLES, body), self.given if given is None else given)

    def value(self, expr):
        return self.run_it(loop(0, 1, put(1, 0, expr), start=2))[1][0]

    def make(self, kind, *ids, info=()):
        return self.table.make(kind, ids, info)

    def test_statements(self):
        a, b, c, d = self.given[0]
        self.assertEqual(self.run_it(), (self.given[0], (None,) * 4, (None,) * 4))
        result = self.run_it(
            copy(2, 1, 0, 0, 3), loop(0, 3, when(form(-1, (0, 1)), put(1, V, load(2, V)))), put(1, 3, ("index", form(-4))))
        self.assertEqual(result, (self.given[0], (None, a, b, self.table.number(-4)), (None, a, b, c)))

    def test_expressions(self):
        a, b, c, d = self.given[0]
        n = self.table.number
        self.assertEqual(self.value(number(5)), n(5))
        self.assertEqual(self.value(("index", form(1, (0, 3)))), n(7))
        self.assertEqual(self.value(load(0, V)), c)
        self.assertEqual(self.value(apply("sub", load(0, 0), load(0, 1))), self.make("sub", a, b))
        self.assertEqual(self.value(apply("clamp", load(0, 0), info=(0, 4))), self.make("clamp", a, info=(0, 4)))
        self.assertEqual(self.value(guard(form(-2, (0, 1)), load(0, 0), load(1, 9))), a)
        self.assertEqual(self.value(guard(form(-3, (0, 1)), load(1, 9), load(0, 1))), b)

    def test_picks(self):
        a, b, c, d = self.given[0]
        index = self.make("clamp", d, info=(0, 2))
        self.assertEqual(self.value(pick(0, 0, 1, 3, load(0, 3))), self.table.pick((a, b, c), index))
        self.assertEqual(self.value(pick(0, 2, -1, 3, load(0, 3))), self.table.pick((c, b, a), index))
        self.assertEqual(self.value(pick(0, V, 0, 3, load(0, 3))), c)
        self.assertEqual(self.value(pick(0, 1, 1, 3, number(9))), d)
        self.assertEqual(self.value(pick(0, 1, 1, 3, number(-9))), b)
        self.assertEqual(self.value(pick(0, 1, 0, 1, load(0, 0))), b)

    def test_all_words_of_a_pick_are_read(self):
        # Run on numbers, these read one word that is set.
        for index in (number(0), load(0, 3)):
            for expr, error in (
                    (pick(0, 2, 1, 3, index), RangeError), (pick(0, 1, -1, 3, index), RangeError),
                    (pick(2, 0, 1, 2, index), UnsetWord), (pick(2, 0, 1, 16, index), UnsetWord),
                    (pick(2, 3, -1, 16, index), UnsetWord), (pick(2, 0, 3, 3, index), RangeError),
                    (pick(2, 3, -3, 3, index), RangeError), (pick(2, 0, 4, 2, index), RangeError)):
                program = (ROLES, (put(2, 0, number(5)), put(2, 3, number(5)), put(2, 2, number(5)), put(1, 0, expr)))
                run_program(program, ((1, 1, 1, -1),))
                with self.assertRaises(error):
                    program_terms(self.table, program, self.given)

    def test_errors_of_the_program_come_first(self):
        for body, error in (
                (put(0, 0, number(1)), FormError), (put(1, 4097, number(1)), RangeError),
                (loop(0, 1000, *[copy(2, 0, 1, 0, 4000)] * 2), TooLarge)):
            with self.assertRaises(error):
                self.run_it(body, given=())

    def test_given_terms(self):
        ids = self.given[0]
        for given in ((), (ids, ids), (ids[:3],), (ids + ids[:1],)):
            with self.assertRaises(FeedError):
                self.run_it(put(1, 4, number(1)), given=given)
        self.assertEqual(self.run_it(given=((ids[0],) * 4,))[0], (ids[0],) * 4)

    def test_errors_of_execution(self):
        for statement, error in (
                (put(1, 4, number(1)), RangeError), (put(1, 4, load(1, 0)), UnsetWord), (put(1, 0, load(0, -1)), RangeError),
                (copy(2, 0, 1, 0, 1), UnsetWord), (copy(2, 0, 1, 0, 5), RangeError),
                (put(1, 0, pick(0, 4, 1, 1, load(1, 0))), UnsetWord), (put(1, 0, pick(0, 4, 1, 1, load(0, 0))), RangeError)):
            with self.assertRaises(error):
                self.run_it(statement)

    def test_too_wide_is_that_of_make(self):
        wide = self.table.variable((7,), -TOP, TOP)
        given = ((wide, self.given[0][0], wide, wide),)
        with self.assertRaises(TooWide):
            self.run_it(put(1, 0, apply("add", load(0, 0), load(0, 1))), given=given)
        result = self.run_it(put(1, 0, apply("sub", load(0, 0), load(0, 2))), given=given)
        self.assertEqual(result[1][0], self.table.number(0))
        # Here the words themselves would not be too wide.
        program = (ROLES, (put(1, 0, apply("add", load(0, 0), load(0, 1))),))
        self.assertEqual(run_program(program, ((TOP - 5, 5, 0, 0),))[1][0], TOP)

    def test_drawn_programs(self):
        unsafe = 0
        for seed in range(300):
            program = drawn_program(seed, safe=seed % 2 == 0)
            table = Terms()
            try:
                terms = program_terms(table, program, variables(table, BUFFERS, -9, 9))
            except TensorError as error:
                self.assertIsInstance(error, (RangeError, UnsetWord))
                unsafe += 1
                continue
            for k in range(3):
                given = drawn_words(seed + 1000 * k)
                self.check(table, program, terms, given)
            self.check(table, program, terms, drawn_words(0, 9, 9))
            self.check(table, program, terms, drawn_words(0, -9, -9))
        self.assertGreater(unsafe, 20)
        self.assertLess(unsafe, 150)

    def check(self, table, program, terms, given):
        """The words of the program are the values of the terms."""
        words = run_program(program, given)
        self.assertEqual(words, Plain(program, given).run())
        values = values_of(given)
        for ids, numbers in zip(terms, words):
            for one, n in zip(ids, numbers):
                self.assertEqual(None if one is None else table.value(one, values), n)


SUM = apply("add", load(0, 0), apply("add", load(0, 1), load(0, 2)))
SUM_AGAIN = apply("sub", apply("add", load(0, 2), load(0, 1)), apply("neg", load(0, 0)))

# Bodies that leave the same words in main memory, for the buffers above.
AGREEING = (
    ((put(1, 0, SUM),), (put(1, 0, SUM_AGAIN),)),
    ((loop(0, 4, put(1, V, load(0, V))),), (copy(2, 0, 0, 0, 4), copy(1, 0, 2, 0, 4))),
    ((loop(0, 4, put(1, V, load(0, V))),), (loop(0, 4, put(1, V, load(0, V)), start=3, step=-1),)),
    ((put(1, 0, number(1)), put(1, 0, number(2))), (put(1, 0, ("index", form(2))),)),
    ((), (put(2, 0, number(1)),)),
    ((), (when(form(-1), put(1, 0, number(1))),)),
    ((put(1, 1, apply("mul", load(0, 0), load(0, 1))),), (put(1, 1, apply("mul", load(0, 1), load(0, 0))),)),
    ((put(1, 1, apply("mul", load(0, 0), number(0))),), (put(1, 1, number(0)),)),
    ((put(1, 1, pick(0, 0, 1, 4, load(0, 0))),),
     (copy(2, 0, 0, 0, 4), put(1, 1, pick(2, 3, -1, 4, apply("sub", number(3), apply("clamp", load(0, 0), info=(0, 3))))))),
    ((put(1, 1, apply("less", number(FAR), load(0, 0))),), (put(1, 1, number(0)),)),
    ((put(1, 1, apply("less", load(0, 0), number(-FAR))),), (put(1, 1, number(0)),)),
    ((put(1, 1, apply("clamp", load(0, 0), info=(-FAR, FAR))),), (put(1, 1, load(0, 0)),)),
)

# Bodies that do not, or not in a way that the terms show.
DIFFERING = (
    ((put(1, 0, SUM),), (put(1, 1, SUM),)),
    ((), (put(1, 0, number(1)),)),
    ((put(1, 0, load(0, 0)),), (put(1, 0, load(0, 1)),)),
    ((put(1, 0, load(0, 0)),), (put(1, 0, apply("add", load(0, 0), number(1))),)),
    ((put(1, 0, apply("sub", load(0, 0), load(0, 1))),), (put(1, 0, apply("sub", load(0, 1), load(0, 0))),)),
    ((put(1, 0, apply("less", number(FAR - 1), load(0, 0))),), (put(1, 0, number(0)),)),
    ((put(1, 0, apply("less", load(0, 0), number(1 - FAR))),), (put(1, 0, number(0)),)),
    ((put(1, 0, apply("mul", load(0, 0), apply("add", load(0, 1), load(0, 2)))),),
     (put(1, 0, apply("add", apply("mul", load(0, 0), load(0, 1)), apply("mul", load(0, 0), load(0, 2)))),)),
)


class Agreeing(unittest.TestCase):
    def test_programs_that_agree(self):
        for first, second in AGREEING:
            self.assertIs(agree((ROLES, first), (ROLES, second)), True)
            self.assertIs(agree((ROLES, second), (ROLES, first)), True)
            self.assertIs(agree((ROLES, first), (ROLES, first)), True)

    def test_programs_that_do_not(self):
        for first, second in DIFFERING:
            self.assertIs(agree((ROLES, first), (ROLES, second)), False)
            self.assertIs(agree((ROLES, second), (ROLES, first)), False)

    def test_programs_with_other_buffers(self):
        one = (put(1, 0, load(0, 0)),)
        for buffers in (
                (("in", 4), ("main", 5)), (("in", 5), ("main", 4)), (("in", 4), ("main", 4), ("main", 1)),
                (("in", 4), ("main", 4), ("in", 1))):
            self.assertIs(agree((ROLES, one), (buffers, one)), False)
            self.assertIs(agree((buffers, one), (ROLES, one)), False)
            self.assertIs(agree((buffers, one), (buffers, one)), True)
        # The same buffers in another order.
        other = (("main", 4), ("in", 4))
        self.assertIs(agree((ROLES, one), (other, (put(0, 0, load(1, 0)),))), False)
        self.assertIs(agree((ROLES, ()), (other, ())), False)
        # The buffers of near memory do not count.
        for buffers in ((("in", 4), ("main", 4)), (("in", 4), ("main", 4), ("near", 9), ("near", 1))):
            self.assertIs(agree((ROLES, one), (buffers, one)), True)
        buffers = (("near", 3), ("in", 4), ("near", 1), ("main", 4))
        self.assertIs(agree((ROLES, one), (buffers, (copy(0, 1, 1, 0, 2), copy(3, 0, 0, 1, 1)))), True)

    def test_several_given_buffers(self):
        buffers = (("in", 2), ("main", 1), ("in", 2))
        one = (buffers, (put(1, 0, load(2, 0)),))
        self.assertIs(agree(one, one), True)
        for other in (load(2, 1), load(0, 0), load(0, 1)):
            self.assertIs(agree(one, (buffers, (put(1, 0, other),))), False)

    def test_the_order_of_the_errors(self):
        good = (ROLES, ())
        bad = {
            FormError: (ROLES, (put(0, 0, number(1)),)), TooLarge: (ROLES, (put(1, 0, number(1)),) * 20001),
            RangeError: (ROLES, (put(1, 4, number(1)),)), UnsetWord: (ROLES, (put(1, 0, load(1, 0)),)),
            TooWide: (ROLES, (put(1, 0, load(0, 0)),) + (put(1, 0, apply("mul", load(1, 0), load(1, 0))),) * 7)}
        for error, program in bad.items():
            for second in [good] + list(bad.values()):
                with self.assertRaises(error):
                    agree(program, second)
            with self.assertRaises(error):
                agree(good, program)
            # Other buffers do not hide an error of the second program.
            with self.assertRaises(error):
                agree(((("in", 1),), ()), program)
        with self.assertRaises(RangeError):
            agree(((("in", 10 ** 30),), ()), good)

    def test_products_of_a_hundred_words(self):
        body = (put(1, 0, number(1)), loop(0, 100, put(1, 0, apply("mul", load(1, 0), load(0, 0)))))
        self.assertIs(agree((ROLES, body), (ROLES, body)), True)
        body = (put(1, 0, number(1)), loop(0, 101, put(1, 0, apply("mul", load(1, 0), load(0, 0)))))
        with self.assertRaises(TooWide):
            agree((ROLES, body), (ROLES, body))

    def test_programs_that_agree_leave_the_same_words(self):
        met = {True: 0, False: 0}
        for seed in range(60):
            random = Random(seed)
            program = drawn_program(seed)
            body = list(program[1])
            place = random.randrange(len(body))
            body.insert(place, body[random.randrange(len(body))])
            other = (BUFFERS, tuple(body))
            try:
                found = agree(program, other)
            except TensorError:
                continue
            met[found] += 1
            if found:
                given = drawn_words(seed, -10 ** 9, 10 ** 9)
                kept = [k for k, (role, _) in enumerate(BUFFERS) if role == "main"]
                left = [[words[k] for k in kept] for words in (run_program(program, given), run_program(other, given))]
                self.assertEqual(left[0], left[1])
        self.assertGreater(min(met.values()), 5)


if __name__ == "__main__":
    unittest.main()
