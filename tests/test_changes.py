"""Point 609."""

import unittest
from random import Random

from making import is_tuples, random_graph
from programs import BUFFERS, Plain, apply, copy, drawn_program, drawn_words, form, guard, load, loop, number, pick, put, when
from test_lowering import computed, given_words, text
from tensorcompiler.agreeing import agree
from tensorcompiler.changes import CHANGES, apply_change
from tensorcompiler.errors import ChangeError, FormError, RangeError, TensorError, TooLarge
from tensorcompiler.lowering import lower
from tensorcompiler.meaning import evaluate_all
from tensorcompiler.running import run_program

ROLES = (("in", 12), ("main", 12), ("main", 12), ("near", 12))
V, W = form(0, (0, 1)), form(0, (1, 1))
SET = put(1, V, load(0, V))


class Base(unittest.TestCase):
    def change(self, body, *change, buffers=ROLES):
        """The body after a change, which must leave the same words."""
        program = (buffers, tuple(body))
        result = apply_change(program, change)
        self.assertTrue(is_tuples(result))
        self.assertIs(agree(program, result), True)
        self.assertEqual(result[0][:len(buffers)], buffers)
        if change[0] != "stage":
            self.assertEqual(result[0], buffers)
        return result[1]

    def refuse(self, body, *change, buffers=ROLES, error=ChangeError):
        with self.assertRaises(error):
            apply_change((buffers, tuple(body)), change)


class Tiles(Base):
    def test_a_size_that_divides_the_count(self):
        self.assertEqual(self.change((loop(0, 12, SET),), "tile", (0,), 4), (
            loop(1, 3, loop(0, 4, put(1, form(0, (0, 1), (1, 4)), load(0, form(0, (0, 1), (1, 4)))))),))
        for size, turns in ((1, 12), (12, 1), (6, 2)):
            place = form(0, (0, 1), (1, size))
            self.assertEqual(self.change((loop(0, 12, SET),), "tile", (0,), size), (
                loop(1, turns, loop(0, size, put(1, place, load(0, place)))),))

    def test_a_size_that_does_not(self):
        place = form(0, (0, 1), (1, 5))
        self.assertEqual(self.change((loop(0, 12, SET),), "tile", (0,), 5), (
            loop(1, 3, loop(0, 5, when(form(11, (0, -1), (1, -5)), put(1, place, load(0, place))))),))
        place = form(0, (0, 1), (1, 11))
        self.assertEqual(self.change((loop(0, 12, SET),), "tile", (0,), 11), (
            loop(1, 2, loop(0, 11, when(form(11, (0, -1), (1, -11)), put(1, place, load(0, place))))),))

    def test_starts_and_steps(self):
        place = form(11, (0, -2), (1, -4))
        self.assertEqual(self.change((loop(0, 5, SET, start=11, step=-2),), "tile", (0,), 2), (
            loop(1, 3, loop(0, 2, when(form(4, (0, -1), (1, -2)), put(1, place, load(0, place))))),))
        # With the step 0 the variable is always the same.
        self.assertEqual(self.change((loop(0, 4, SET, start=3, step=0),), "tile", (0,), 2), (
            loop(1, 2, loop(0, 2, put(1, 3, load(0, 3)))),))

    def test_the_new_variable(self):
        inner = put(1, form(0, (3, 1), (5, 1)), load(0, form(0, (3, 1), (5, 1))))
        body = (loop(5, 3, loop(3, 4, inner)), loop(9, 1, put(2, 0, number(1))))
        place = form(0, (3, 1), (5, 1), (10, 2))
        self.assertEqual(self.change(body, "tile", (0, 0), 2), (
            loop(5, 3, loop(10, 2, loop(3, 2, put(1, place, load(0, place))))), body[1]))
        place = form(0, (3, 1), (5, 1), (10, 3))
        self.assertEqual(self.change(body, "tile", (0,), 3), (
            loop(10, 1, loop(5, 3, loop(3, 4, put(1, place, load(0, place))))), body[1]))

    def test_the_variable_in_all_places(self):
        deep = (
            when(form(-1, (0, 1)), put(1, V, guard(form(-2, (0, 1)), ("index", V), pick(0, V, 0, 2, load(0, V))))),
            copy(3, V, 0, V, 1), loop(1, 2, put(2, form(0, (0, 1), (1, 1)), apply("neg", load(3, V)))))
        place = form(0, (0, 1), (2, 3))
        self.assertEqual(self.change((loop(0, 6, *deep),), "tile", (0,), 3), (loop(2, 2, loop(
            0, 3,
            when(form(-1, (0, 1), (2, 3)), put(1, place, guard(
                form(-2, (0, 1), (2, 3)), ("index", place), pick(0, place, 0, 2, load(0, place))))),
            copy(3, place, 0, place, 1),
            loop(1, 2, put(2, form(0, (0, 1), (1, 1), (2, 3)), apply("neg", load(3, place)))))),))

    def test_sizes_out_of_range(self):
        for size in (0, -1, 13, 100):
            self.refuse((loop(0, 12, SET),), "tile", (0,), size)


class Swaps(Base):
    def test_two_loops(self):
        place = form(0, (0, 4), (1, 1))
        one = put(1, place, load(0, place))
        self.assertEqual(self.change((loop(0, 3, loop(1, 4, one)),), "swap", (0,)), (loop(1, 4, loop(0, 3, one)),))
        body = (loop(0, 3, loop(1, 2, one, put(2, W, ("index", W)), start=3, step=-2)),)
        self.assertEqual(self.change(body, "swap", (0,)), (
            loop(1, 2, loop(0, 3, one, put(2, W, ("index", W))), start=3, step=-2),))

    def test_deeper(self):
        place = form(0, (0, 6), (1, 2), (2, 1))
        one = put(1, place, load(0, place))
        body = (loop(0, 2, loop(1, 3, loop(2, 2, one))),)
        self.assertEqual(self.change(body, "swap", (0, 0)), (loop(0, 2, loop(2, 2, loop(1, 3, one))),))
        self.assertEqual(self.change(body, "swap", (0,)), (loop(1, 3, loop(0, 2, loop(2, 2, one))),))

    def test_bodies_that_are_not_a_single_loop(self):
        one = loop(1, 2, put(1, W, number(1)))
        for body in ((one, put(1, 3, number(1))), (put(1, 3, number(1)), one), (put(1, 3, number(1)),), (one, one),
                     (when(form(0), one),)):
            self.refuse((loop(0, 3, *body),), "swap", (0,))


class Unrolls(Base):
    def test_copies_of_the_body(self):
        body = (put(2, 0, number(1)), loop(0, 3, SET, put(2, V, ("index", V)), start=5, step=-2), put(2, 11, number(2)))
        self.assertEqual(self.change(body, "unroll", (1,)), (
            body[0], put(1, 5, load(0, 5)), put(2, 5, ("index", form(5))), put(1, 3, load(0, 3)), put(2, 3, ("index", form(3))),
            put(1, 1, load(0, 1)), put(2, 1, ("index", form(1))), body[2]))
        self.assertEqual(self.change((loop(0, 1, SET),), "unroll", (0,)), (put(1, 0, load(0, 0)),))

    def test_nested_loops(self):
        one = put(1, form(0, (0, 4), (1, 1)), load(0, form(1, (0, 2))))
        body = (loop(0, 3, loop(1, 4, one)),)
        self.assertEqual(self.change(body, "unroll", (0, 0)), (
            loop(0, 3, *[put(1, form(k, (0, 4)), load(0, form(1, (0, 2)))) for k in range(4)]),))
        self.assertEqual(self.change(body, "unroll", (0,)), tuple(
            loop(1, 4, put(1, form(4 * k, (1, 1)), load(0, 1 + 2 * k))) for k in range(3)))

    def test_inside_of_a_when(self):
        body = (when(form(0), put(1, 0, number(1)), loop(0, 2, SET)), when(form(-1), put(1, 0, number(1))))
        self.assertEqual(self.change(body, "unroll", (0, 1)), (
            when(form(0), put(1, 0, number(1)), put(1, 0, load(0, 0)), put(1, 1, load(0, 1))), body[1]))

    def test_too_many_statements(self):
        for many, turns in ((20, 1000), (21, 1000)):
            body = (loop(0, turns, *[put(1, 0, ("index", V))] * (many // 2), *[copy(3, 0, 0, 0, 1)] * (many - many // 2)),)
            if many == 20:
                self.assertEqual(len(self.change(body, "unroll", (0,))), 20000)
            else:
                self.refuse(body, "unroll", (0,))
        # Too many parts.
        self.refuse((loop(0, 1000, *[put(1, 0, number(1))] * 11),), "unroll", (0,))


class Reverses(Base):
    def test_starts_and_steps(self):
        for start, step, count in ((0, 1, 12), (11, -1, 12), (1, 3, 4), (2, 0, 3), (7, 5, 1)):
            self.assertEqual(self.change((loop(0, count, SET, start=start, step=step),), "reverse", (0,)), (
                loop(0, count, SET, start=start + step * (count - 1), step=-step),))

    def test_where_the_order_counts(self):
        self.refuse((loop(0, 3, put(1, 0, load(0, V))),), "reverse", (0,))
        self.refuse((put(1, 0, number(0)), loop(0, 3, put(1, form(1, (0, 1)), load(1, V)))), "reverse", (1,))
        # A sum does not depend on the order.
        self.change((put(1, 0, number(0)), loop(0, 3, put(1, 0, apply("add", load(1, 0), load(0, V))))), "reverse", (1,))

    def test_twice_is_nothing(self):
        body = (loop(0, 7, SET, start=2, step=1),)
        self.assertEqual(self.change(self.change(body, "reverse", (0,)), "reverse", (0,)), body)


class Splits(Base):
    def test_each_place(self):
        inner = (SET, put(2, V, load(1, V)), put(2, form(11, (0, -1)), number(4)))
        for at in (1, 2):
            self.assertEqual(self.change((loop(0, 5, *inner, start=1),), "split", (0,), at), (
                loop(0, 5, *inner[:at], start=1), loop(0, 5, *inner[at:], start=1)))
        for at in (0, 3, -1, 4):
            self.refuse((loop(0, 5, *inner, start=1),), "split", (0,), at)
        self.refuse((loop(0, 5, SET),), "split", (0,), 1)

    def test_where_the_order_counts(self):
        inner = (put(1, 0, load(0, V)), put(2, V, load(1, 0)))
        self.refuse((loop(0, 3, *inner),), "split", (0,), 1)


class Fuses(Base):
    def test_two_loops(self):
        second = loop(1, 5, put(2, W, apply("neg", load(1, W))), start=1, step=2)
        behind = put(2, 0, number(3))
        self.assertEqual(self.change((behind, loop(0, 5, SET, start=1, step=2), second, behind), "fuse", (1,)), (
            behind, loop(0, 5, SET, put(2, V, apply("neg", load(1, V))), start=1, step=2), behind))
        again = loop(0, 5, put(2, V, apply("neg", load(1, V))), start=1, step=2)
        self.assertEqual(self.change((loop(0, 5, SET, start=1, step=2), again), "fuse", (0,)), (
            loop(0, 5, SET, put(2, V, apply("neg", load(1, V))), start=1, step=2),))

    def test_forms_stay_in_order(self):
        # The variable 7 becomes 0, so it stands in front of 3.
        second = loop(7, 3, loop(3, 2, put(2, form(0, (3, 1), (7, 2)), ("index", form(0, (3, 5), (7, -1))))))
        self.assertEqual(self.change((loop(0, 3, SET), second), "fuse", (0,)), (loop(
            0, 3, SET, loop(3, 2, put(2, form(0, (0, 2), (3, 1)), ("index", form(0, (0, -1), (3, 5)))))),))

    def test_terms_with_the_same_variable(self):
        # Inside of a loop over 4, the loop over 6 becomes one over 5, and 4 stays.
        inner = (loop(5, 2, put(1, form(0, (4, 1), (5, 1)), number(1))), loop(6, 2, put(2, form(0, (4, 1), (6, 1)), number(2))))
        self.assertEqual(self.change((loop(4, 2, *inner),), "fuse", (0, 0)), (loop(4, 2, loop(
            5, 2, put(1, form(0, (4, 1), (5, 1)), number(1)), put(2, form(0, (4, 1), (5, 1)), number(2)))),))

    def test_what_it_needs(self):
        one = loop(0, 5, SET, start=1, step=2)
        two = put(2, W, number(1))
        self.refuse((one,), "fuse", (0,))
        self.refuse((loop(1, 5, two, start=1, step=2), one), "fuse", (1,))
        self.refuse((one, put(2, 0, number(1)), loop(1, 5, two, start=1, step=2)), "fuse", (0,))
        self.refuse((one, when(form(0), loop(1, 5, two, start=1, step=2))), "fuse", (0,))
        for start, step, count in ((2, 2, 5), (1, 1, 5), (1, 2, 4)):
            self.refuse((one, loop(1, count, two, start=start, step=step)), "fuse", (0,))
        self.refuse((loop(2, 1, one), loop(1, 5, two, start=1, step=2)), "fuse", (0, 0))
        # Even where one loop would leave the same words.
        for start, step, count in ((0, 1, 3), (1, 1, 4), (0, 2, 4)):
            self.refuse((loop(0, 4, SET), loop(1, count, put(2, 0, number(1)), start=start, step=step)), "fuse", (0,))
        self.change((loop(0, 4, SET), loop(1, 4, put(2, 0, number(1)))), "fuse", (0,))

    def test_where_the_order_counts(self):
        self.refuse((loop(0, 5, SET), loop(1, 5, put(2, W, load(1, form(4, (1, -1)))))), "fuse", (0,))

    def test_a_loop_inside_with_the_same_variable(self):
        second = loop(1, 2, loop(0, 3, put(2, form(0, (0, 1), (1, 3)), number(1))))
        self.refuse((loop(0, 2, SET), second), "fuse", (0,))


class Stages(Base):
    def test_each_mode(self):
        body = (loop(0, 3, put(1, form(0, (0, 4)), load(0, form(1, (0, 4)))), put(1, form(1, (0, 4)), load(0, form(0, (0, 4))))),)
        at = form(0, (0, 4))
        result = apply_change((ROLES, body), ("stage", (0,), 0, at, 2, "in"))
        self.assertEqual(result, (ROLES + (("near", 2),), (loop(
            0, 3, copy(4, 0, 0, at, 2), put(1, at, load(4, 1)), put(1, form(1, (0, 4)), load(4, 0))),)))
        result = apply_change((ROLES, body), ("stage", (0,), 1, at, 2, "out"))
        self.assertEqual(result, (ROLES + (("near", 2),), (loop(
            0, 3, put(4, 0, load(0, form(1, (0, 4)))), put(4, 1, load(0, at)), copy(1, at, 4, 0, 2)),)))
        body = (loop(0, 3, put(1, at, number(1))),) + body
        result = apply_change((ROLES, body), ("stage", (1,), 1, at, 2, "out"))
        self.assertEqual(result[1][0], body[0])
        both = (loop(0, 3, put(1, V, load(0, V))), loop(0, 3, put(1, V, apply("add", load(1, V), load(0, V)))))
        self.assertEqual(self.change(both, "stage", (1,), 1, V, 1, "both"), (both[0], loop(
            0, 3, copy(4, 0, 1, V, 1), put(4, 0, apply("add", load(4, 0), load(0, V))), copy(1, V, 4, 0, 1))))

    def test_loads_picks_and_puts_wherever_they_stand(self):
        place = form(0, (0, 6), (1, 1))
        inner = loop(1, 4, when(form(5, (1, -1)), put(1, place, guard(
            form(-1, (1, 1)), apply("add", pick(0, form(0, (0, 6)), 1, 6, load(0, place)), load(2, 0)), load(0, place)))))
        body = (put(2, 0, number(7)), loop(0, 2, inner))
        result = self.change(body, "stage", (1,), 0, form(0, (0, 6)), 6, "in")
        self.assertEqual(result, (body[0], loop(0, 2, copy(4, 0, 0, form(0, (0, 6)), 6), loop(
            1, 4, when(form(5, (1, -1)), put(1, place, guard(
                form(-1, (1, 1)), apply("add", pick(4, 0, 1, 6, load(4, W)), load(2, 0)), load(4, W))))))))
        result = self.change(body, "stage", (1,), 1, form(0, (0, 6)), 4, "out")
        self.assertEqual(result[1], loop(0, 2, loop(1, 4, when(form(5, (1, -1)), put(4, W, inner[5][0][2][0][3]))), copy(
            1, form(0, (0, 6)), 4, 0, 4)))

    def test_a_copy_in_the_body_stays(self):
        body = (loop(0, 2, copy(3, 0, 0, form(0, (0, 6)), 6), put(1, V, apply("add", load(3, 1), load(0, form(0, (0, 6)))))),)
        self.assertEqual(self.change(body, "stage", (0,), 0, form(0, (0, 6)), 1, "in"), (loop(
            0, 2, copy(4, 0, 0, form(0, (0, 6)), 1), copy(3, 0, 0, form(0, (0, 6)), 6),
            put(1, V, apply("add", load(3, 1), load(4, 0)))),))

    def test_a_form_of_outer_loops(self):
        place = form(0, (0, 4), (1, 1))
        body = (loop(0, 3, loop(1, 4, put(1, place, load(0, place)))),)
        self.assertEqual(self.change(body, "stage", (0, 0), 0, form(0, (0, 4)), 4, "in"), (loop(0, 3, loop(
            1, 4, copy(4, 0, 0, form(0, (0, 4)), 4), put(1, place, load(4, W)))),))

    def test_what_it_needs(self):
        body = (loop(0, 3, SET),)
        for buffer, mode in ((3, "in"), (4, "in"), (-1, "in"), (0, "odd"), (0, ""), (1, "In"), (100, "out")):
            self.refuse(body, "stage", (0,), buffer, V, 1, mode)

    def test_modes(self):
        body = (loop(0, 3, SET), loop(0, 3, put(1, V, apply("neg", load(1, V)))))
        self.change(body, "stage", (1,), 1, V, 1, "both")
        for mode in ("", "Both", "odd", "inout", "b"):
            self.refuse(body, "stage", (1,), 1, V, 1, mode)

    def test_changes_that_do_not_hold(self):
        body = (loop(0, 3, SET),)
        self.change(body, "stage", (0,), 0, V, 1, "in")
        # Not the words that are read, none at all, words that are not set, a buffer that is given, outside of it.
        self.refuse(body, "stage", (0,), 0, form(0), 2, "in")
        self.refuse(body, "stage", (0,), 0, V, 1, "out")
        self.refuse(body, "stage", (0,), 1, V, 1, "in")
        self.refuse(body, "stage", (0,), 1, V, 1, "both")
        self.refuse(body, "stage", (0,), 0, V, 1, "both")
        self.refuse(body, "stage", (0,), 0, V, 11, "in")
        self.change(body, "stage", (0,), 0, V, 10, "in")
        for count in (0, -1, 4097):
            self.refuse(body, "stage", (0,), 0, V, count, "in")
        # Forms that are not right there.
        for place in (W, form(0, (0, 0)), form(0, (0, 1), (0, 1)), form(4097), form(-1)):
            self.refuse(body, "stage", (0,), 0, place, 12, "in")

    def test_buffers(self):
        result = apply_change((ROLES, (loop(0, 3, SET),)), ("stage", (0,), 0, form(0), 4, "in"))
        self.assertEqual(result[0], ROLES + (("near", 4),))
        again = apply_change(result, ("stage", (0,), 1, V, 1, "out"))
        self.assertEqual(again, (ROLES + (("near", 4), ("near", 1)), (loop(
            0, 3, copy(4, 0, 0, 0, 4), put(5, 0, load(4, V)), copy(1, V, 5, 0, 1)),)))
        full = ROLES + (("near", 1),) * 996
        self.refuse((loop(0, 3, SET),), "stage", (0,), 0, V, 1, "in", buffers=full)
        self.change((loop(0, 3, SET),), "stage", (0,), 0, V, 1, "in", buffers=full[:999])


class Errors(Base):
    BODY = (put(1, 0, number(1)), loop(0, 3, SET, when(form(-2, (0, 1)), loop(1, 2, put(2, W, number(1))))))

    def test_the_names(self):
        self.assertEqual(CHANGES, ("tile", "swap", "unroll", "reverse", "split", "fuse", "stage"))
        for name in ("", "Tile", "odd", "reverse "):
            self.refuse(self.BODY, name, (1,))
        self.refuse(self.BODY)
        self.refuse(self.BODY, "reverse")

    def test_paths(self):
        for path in ((1,), (1, 1, 0)):
            self.change(self.BODY, "unroll", path)
        for path in ((), (0,), (2,), (-1,), (1, 0), (1, 1), (1, 2), (1, -1), (0, 0), (1, 0, 0), (1, 1, 1), (1, 1, -1),
                     (1, 1, 0, 0), (1, 1, 0, 0, 0), (100,)):
            for name, rest in (("unroll", ()), ("reverse", ()), ("tile", (1,)), ("stage", (0, V, 1, "in"))):
                self.refuse(self.BODY, name, path, *rest)

    def test_errors_of_the_program_come_first(self):
        for change in (("odd", ()), ("reverse", ()), ("reverse", (0,)), ("tile", (0,), 0)):
            self.refuse((loop(0, 3, put(0, V, number(1))),), *change, error=FormError)
            self.refuse((loop(0, 3, put(1, 5000, number(1))),), *change, error=RangeError)
            self.refuse((loop(0, 1000, *[copy(3, 0, 0, 0, 4000)] * 2),), *change, error=TooLarge)

    def test_programs_that_do_not_run(self):
        # The change itself could be made, but the program has an error that check_program does not see.
        for one in (put(1, 12, number(1)), put(1, 0, load(1, 5)), copy(3, 0, 0, 10, 3)):
            self.refuse((loop(0, 3, SET), one), "reverse", (0,))
        wide = (put(1, 0, number(2)),) + (put(1, 0, apply("mul", load(1, 0), load(1, 0))),) * 15
        self.refuse((loop(0, 3, SET),) + wide, "reverse", (0,))
        self.change((loop(0, 3, put(2, V, load(0, V))),) + wide[:-1], "reverse", (0,))

    def test_results_that_are_not_valid(self):
        # One more loop around the innermost one is too much.
        body = put(1, V, load(0, V))
        for variable in range(7, -1, -1):
            body = loop(variable, 2, body)
        self.change((body,), "reverse", (0,))
        self.refuse((body,), "tile", (0,), 1)
        # A factor gets too large, a value of the variable too far.
        self.refuse((loop(0, 5, put(1, V, number(1)), when(form(-1, (0, 4096)), put(2, 0, number(1)))),), "tile", (0,), 2)
        self.change((loop(0, 2, put(1, V, number(1)), start=0, step=11),), "reverse", (0,))
        self.refuse((loop(0, 1, put(1, 0, number(1)), start=0, step=5000),) * 2, "tile", (0,), 2)

    def test_changes_of_programs_without_loops(self):
        for name in ("unroll", "reverse", "swap", "fuse"):
            self.refuse((put(1, 0, number(1)),), name, (0,))
            self.refuse((), name, (0,))


class Drawn(Base):
    def drawn_change(self, random, program):
        """A change at some loop of the program, which may not hold."""
        paths = []

        def look(body, path):
            for place, statement in enumerate(body):
                if statement[0] == "loop":
                    paths.append(path + (place,))
                if statement[0] in ("loop", "when"):
                    look(statement[-1], path + (place,))

        look(program[1], ())
        name = random.choice(CHANGES)
        rest = {"tile": (random.randint(1, 4),), "split": (random.randint(1, 2),)}.get(name, ())
        if name == "stage":
            buffer = random.randrange(len(program[0]))
            rest = (buffer, (0, ()), program[0][buffer][1], random.choice(("in", "out", "both")))
        return (name, random.choice(paths)) + rest

    def test_changes_leave_the_same_words(self):
        made = {}
        for seed in range(250):
            random = Random(seed)
            program = drawn_program(seed)
            change = self.drawn_change(random, program)
            try:
                result = apply_change(program, change)
            except ChangeError:
                continue
            made[change[0]] = made.get(change[0], 0) + 1
            kept = [k for k, (role, _) in enumerate(BUFFERS) if role == "main"]
            for k in range(2):
                given = drawn_words(seed + 1000 * k)
                words, changed = run_program(program, given), run_program(result, given)
                self.assertEqual(changed, Plain(result, given).run())
                self.assertEqual([words[k] for k in kept], [changed[k] for k in kept])
        self.assertGreater(min(made.get(name, 0) for name in ("tile", "unroll", "reverse", "split", "stage")), 3)

    def test_several_changes_of_a_lowered_graph(self):
        graph = text(("i4k6", "k6j3"), "dot 0 1 k", "neg 2", "sum 3 j")
        program, places = lower(graph, computed(graph))
        feeds = (tuple(range(-9, 10)) + (3, -4, 5, 6, 7), tuple(k % 7 - 3 for k in range(18)))
        values = evaluate_all(graph, feeds)
        for change in (
                ("tile", (0,), 2), ("swap", (0,)), ("swap", (0, 0)), ("unroll", (0, 0, 0, 0, 1)), ("reverse", (1,)),
                ("fuse", (1,)), ("stage", (0,), 0, form(0), 24, "in"), ("stage", (0,), 2, form(0), 12, "both")):
            try:
                program = apply_change(program, change)
            except ChangeError:
                continue
            words = run_program(program, given_words(graph, feeds))
            for place in computed(graph):
                self.assertEqual(words[places[place]], values[place])

    def test_drawn_graphs(self):
        made = 0
        for seed in range(60):
            random = Random(seed)
            graph = random_graph(seed, 14)
            try:
                program, _ = lower(graph, computed(graph))
                if not any(statement[0] == "loop" for statement in program[1]):
                    continue
                result = apply_change(program, self.drawn_change(random, program))
            except TensorError:
                continue
            made += 1
            self.assertIs(agree(program, result), True)
        self.assertGreater(made, 10)


if __name__ == "__main__":
    unittest.main()
