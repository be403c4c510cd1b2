"""Point 604."""

import unittest

from making import is_tuples
from programs import Plain, Wrong, apply, copy, drawn_program, drawn_words, form, guard, load, loop, number, pick, put, when
from tensorcompiler import errors
from tensorcompiler.errors import FeedError, FormError, RangeError, TooLarge, TooWide, UnsetWord
from tensorcompiler.running import run_program

TOP = 2 ** 20000
BUFFERS = (("in", 4), ("main", 4), ("near", 4))
V = form(0, (0, 1))
WORDS = ((5, -6, 7, 2),)


def run(*body, given=WORDS, buffers=BUFFERS):
    return run_program((buffers, body), given)


def none(many=4):
    return (None,) * many


class Statements(unittest.TestCase):
    def test_no_statements(self):
        self.assertEqual(run(), (WORDS[0], none(), none()))
        self.assertEqual(run_program(((), ()), ()), ())
        self.assertEqual(run(buffers=(("near", 1), ("in", 2), ("main", 3), ("in", 1)), given=((1, 2), (3,))),
                         ((None,), (1, 2), none(3), (3,)))

    def test_loops(self):
        result = run(loop(0, 3, put(1, form(1, (0, 1)), ("index", form(10, (0, 2))))))
        self.assertEqual(result[1], (None, 10, 12, 14))
        result = run(loop(0, 3, put(1, form(0, (0, 1)), ("index", V)), start=3, step=-1))
        self.assertEqual(result[1], (None, 1, 2, 3))
        result = run(loop(0, 4, put(1, 2, ("index", V)), start=-5, step=0))
        self.assertEqual(result[1], (None, None, -5, None))
        place = form(0, (0, 2), (4, 1))
        result = run(loop(4, 2, loop(0, 2, put(1, place, ("index", form(0, (0, 10), (4, 1)))))))
        self.assertEqual(result[1], (0, 1, 10, 11))
        # The same variable in one loop behind another one.
        result = run(loop(0, 2, put(1, V, number(1))), loop(0, 1, put(1, V, number(2)), start=1))
        self.assertEqual(result[1], (1, 2, None, None))

    def test_whens(self):
        result = run(loop(0, 4, when(form(-2, (0, 1)), put(1, V, number(9)), put(2, V, number(8)))))
        self.assertEqual(result[1:], ((None, None, 9, 9), (None, None, 8, 8)))
        result = run(when(form(0), put(1, 0, number(1))), when(form(-1), put(1, 0, number(2))))
        self.assertEqual(result[1], (1, None, None, None))
        # What a body would do wrong does not count where it is not executed.
        run(when(form(-1), put(1, 9, load(1, 0))))

    def test_copies(self):
        result = run(copy(2, 1, 0, 0, 3), copy(1, 0, 2, 2, 2))
        self.assertEqual(result[1:], ((-6, 7, None, None), (None, 5, -6, 7)))
        result = run(loop(0, 4, copy(2, V, 0, form(3, (0, -1)), 1)))
        self.assertEqual(result[2], (2, 7, -6, 5))
        # A run of words that goes there and back, onto a part of itself.
        result = run(copy(2, 0, 0, 0, 4), copy(1, 0, 2, 0, 4), copy(2, 1, 1, 0, 3), copy(1, 0, 2, 0, 4), copy(2, 0, 1, 1, 3))
        self.assertEqual(result[1:], ((5, 5, -6, 7), (5, -6, 7, 7)))

    def test_words_that_are_set_again(self):
        result = run(put(1, 0, number(1)), put(1, 0, apply("add", load(1, 0), load(1, 0))), put(1, 1, load(1, 0)))
        self.assertEqual(result[1], (2, 2, None, None))
        self.assertEqual(result[0], WORDS[0])


class Expressions(unittest.TestCase):
    def value(self, expr, given=WORDS):
        return run(loop(0, 1, put(1, 0, expr), start=2), given=given)[1][0]

    def test_each_of_them(self):
        self.assertEqual(self.value(number(-8)), -8)
        self.assertEqual(self.value(("index", form(7, (0, -4)))), -1)
        self.assertEqual(self.value(load(0, form(3, (0, -1)))), -6)
        self.assertEqual(self.value(apply("sub", load(0, 0), load(0, 1))), 11)
        self.assertEqual(self.value(apply("shift", load(0, 0), info=(1,))), 3)
        self.assertEqual(self.value(apply("clamp", load(0, 0), info=(-3, 3))), 3)
        self.assertEqual(self.value(apply("where", number(0), load(0, 0), load(0, 1))), -6)
        self.assertEqual(self.value(apply("less", load(0, 1), load(0, 0))), 1)

    def test_guards(self):
        self.assertEqual(self.value(guard(form(-2, (0, 1)), number(1), number(2))), 1)
        self.assertEqual(self.value(guard(form(-3, (0, 1)), number(1), number(2))), 2)
        # Only one of both is evaluated.
        self.assertEqual(self.value(guard(0, number(1), load(1, 9))), 1)
        self.assertEqual(self.value(guard(-1, load(1, 0), number(2))), 2)

    def test_picks(self):
        for v, place in ((-9, 0), (-1, 0), (0, 0), (1, 1), (2, 2), (3, 2), (90, 2)):
            self.assertEqual(self.value(pick(0, 0, 1, 3, number(v))), WORDS[0][place])
            self.assertEqual(self.value(pick(0, form(1, (0, 1)), -1, 3, number(v))), WORDS[0][3 - place])
            self.assertEqual(self.value(pick(0, 1, 0, 3, number(v))), -6)
        # Only the word that is chosen is read.
        self.assertEqual(self.value(pick(0, 1, 2, 3, load(0, 1))), -6)
        self.assertEqual(run(put(2, 1, number(4)), put(1, 0, pick(2, 0, 1, 16, number(1))))[1][0], 4)


class Errors(unittest.TestCase):
    def refuse(self, error, *body, given=WORDS, buffers=BUFFERS):
        with self.assertRaises(error):
            run(*body, given=given, buffers=buffers)

    def test_errors_of_the_program_come_first(self):
        self.refuse(FormError, put(0, 0, number(1)), given=())
        self.refuse(RangeError, put(1, 5000, number(1)), given=())
        self.refuse(TooLarge, *[copy(2, 0, 1, 0, 4000)] * 1001, given=())

    def test_given_words(self):
        for given in ((), WORDS * 2, ((1, 2, 3),), ((1, 2, 3, 4, 5),), ((),)):
            self.refuse(FeedError, given=given)
            self.refuse(FeedError, put(1, 4, number(1)), given=given)
        self.refuse(FeedError, buffers=(("in", 1), ("in", 2)), given=((1, 2), (1,)))
        self.refuse(FeedError, buffers=(("main", 1),), given=((1,),))

    def test_words_outside(self):
        for place in (4, -1, 4096, -4096):
            self.refuse(RangeError, put(1, place, number(1)))
            self.refuse(RangeError, put(1, 0, load(0, place)))
            self.refuse(RangeError, put(1, 0, pick(0, place, 1, 1, number(0))))
            self.refuse(RangeError, copy(2, place, 0, 0, 1))
            self.refuse(RangeError, copy(2, 0, 0, place, 1))
        self.refuse(RangeError, put(1, 0, pick(0, 2, 1, 3, number(2))))
        self.refuse(RangeError, put(1, 0, pick(0, 1, -1, 3, number(2))))
        self.refuse(RangeError, copy(2, 0, 0, 1, 4))
        self.refuse(RangeError, copy(2, 2, 0, 0, 3))
        self.refuse(RangeError, copy(2, 0, 0, 0, 5))
        self.refuse(RangeError, loop(0, 5, put(1, V, number(1))))

    def test_words_that_are_not_set(self):
        self.refuse(UnsetWord, put(1, 0, load(1, 0)))
        self.refuse(UnsetWord, put(1, 0, load(2, 3)))
        self.refuse(UnsetWord, put(1, 0, pick(2, 0, 1, 4, number(3))))
        self.refuse(UnsetWord, copy(2, 0, 1, 0, 1))
        self.refuse(UnsetWord, put(2, 0, number(1)), put(2, 2, number(1)), copy(1, 0, 2, 0, 3))
        self.refuse(UnsetWord, put(1, 0, apply("mul", number(0), load(1, 1))))

    def test_a_copy_asks_for_its_places_first(self):
        self.refuse(RangeError, copy(2, 0, 1, 3, 2))
        self.refuse(RangeError, copy(2, 3, 1, 0, 2))
        self.refuse(RangeError, copy(1, 4, 2, 0, 1))

    def test_the_order_of_execution(self):
        unset, outside, wide = load(1, 1), load(0, 4), apply("mul", load(0, 0), load(0, 0))
        big = ((2 ** 10001, 0, 0, 0),)
        for first, error in ((unset, UnsetWord), (outside, RangeError), (wide, TooWide)):
            for second in (unset, outside, wide):
                self.refuse(error, put(1, 0, first), put(1, 0, second), given=big)
                self.refuse(error, put(1, 0, apply("add", first, second)), given=big)
                self.refuse(error, put(1, 0, apply("where", number(1), first, second)), given=big)
                # The expression is evaluated ahead of the form.
                self.refuse(error, put(1, 4, first), given=big)
                self.refuse(error, put(1, 0, pick(0, 4, 1, 1, first)), given=big)
                self.refuse(error, put(1, 0, pick(1, 1, 1, 1, first)), given=big)
        self.refuse(RangeError, put(1, 4, pick(0, 4, 1, 1, number(0))))

    def test_values_that_are_too_wide(self):
        def plus(n, more):
            return run(put(1, 0, apply("add", load(0, 0), number(more))), given=((n, 0, 0, 0),))[1][0]

        self.assertEqual(plus(TOP - 1, 1), TOP)
        self.assertEqual(plus(1 - TOP, -1), -TOP)
        self.assertEqual(plus(TOP + 1, -1), TOP)
        for n, more in ((TOP, 1), (-TOP, -1), (TOP + 1, 0), (2 * TOP, 5), (-2 * TOP, 5)):
            with self.assertRaises(TooWide):
                plus(n, more)
        # Only what an apply makes is asked.
        self.assertEqual(run(copy(2, 0, 0, 0, 1), put(1, 0, load(2, 0)), given=((2 * TOP, 0, 0, 0),))[1][0], 2 * TOP)


class Drawn(unittest.TestCase):
    def test_programs_without_errors(self):
        for seed in range(150):
            program, given = drawn_program(seed), drawn_words(seed)
            result = run_program(program, given)
            self.assertEqual(result, Plain(program, given).run())
            self.assertTrue(is_tuples(tuple(tuple(n or 0 for n in words) for words in result)))

    def test_programs_with_errors(self):
        met = {}
        for seed in range(400):
            program, given = drawn_program(seed, safe=False), drawn_words(seed)
            try:
                wanted = Plain(program, given).run()
            except Wrong as wrong:
                met[str(wrong)] = met.get(str(wrong), 0) + 1
                with self.assertRaises(getattr(errors, str(wrong))):
                    run_program(program, given)
            else:
                self.assertEqual(run_program(program, given), wanted)
        self.assertGreater(min(met["RangeError"], met["UnsetWord"]), 10)


if __name__ == "__main__":
    unittest.main()
