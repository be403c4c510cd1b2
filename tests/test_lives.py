"""Point 701."""

import unittest

from making import is_tuples
from programs import apply, copy, drawn_program, form, guard, load, loop, number, pick, put, when
from tensorcompiler.lives import lives, meet

V = form(0, (0, 1))


class Lives(unittest.TestCase):
    def of(self, body, outs=(), buffers=(("in", 4), ("main", 4), ("near", 4), ("main", 4))):
        result = lives((buffers, tuple(body)), outs)
        self.assertTrue(is_tuples(result))
        return result

    def test_where_a_buffer_occurs(self):
        one = put(1, 0, number(1))
        other = copy(2, 0, 0, 0, 4)
        self.assertEqual(self.of((one,)), ((0, 0), (0, 0)))
        self.assertEqual(self.of((other, one, other)), ((1, 1), (0, 0)))
        self.assertEqual(self.of((other, one, other, put(3, 0, load(1, 0)), one, put(3, 1, number(2)))), ((1, 4), (3, 5)))
        self.assertEqual(self.of((one, other, other, put(3, 0, number(1)))), ((0, 0), (3, 3)))

    def test_in_each_statement_and_expression(self):
        for statement in (
                put(1, 0, number(1)), copy(1, 0, 2, 0, 1), copy(2, 0, 1, 0, 1), put(2, 0, load(1, 0)),
                put(2, 0, pick(1, 0, 1, 2, number(0))), put(2, 0, pick(2, 0, 1, 2, load(1, 0))),
                put(2, 0, guard(0, load(1, 0), number(0))), put(2, 0, guard(0, number(0), load(1, 0))),
                put(2, 0, apply("add", number(1), apply("neg", load(1, 0))))):
            other = put(2, 0, number(1))
            for inside in (statement, loop(0, 2, other, statement), when(form(0), statement, other),
                           loop(0, 2, when(form(0), other, loop(1, 1, statement)))):
                self.assertEqual(self.of((other, inside, other)), ((1, 1), (0, 0)))
                self.assertEqual(self.of((other, inside, other, inside)), ((1, 3), (0, 0)))

    def test_buffers_that_occur_in_no_statement(self):
        self.assertEqual(self.of(()), ((0, 0), (0, 0)))
        self.assertEqual(self.of((put(2, 0, number(1)),) * 3), ((0, 0), (0, 0)))
        self.assertEqual(self.of((), buffers=()), ())
        self.assertEqual(self.of((), buffers=(("in", 1), ("near", 1))), ())

    def test_outputs(self):
        body = (put(2, 0, number(1)), put(1, 0, number(1)), put(3, 0, load(1, 0)), put(2, 0, number(1)))
        self.assertEqual(self.of(body), ((1, 2), (2, 2)))
        self.assertEqual(self.of(body, (1,)), ((1, 4), (2, 2)))
        self.assertEqual(self.of(body, (3,)), ((1, 2), (2, 4)))
        self.assertEqual(self.of(body, (3, 1, 3)), ((1, 4), (2, 4)))
        # Only buffers of main memory count.
        self.assertEqual(self.of(body, (0, 2)), ((1, 2), (2, 2)))
        self.assertEqual(self.of(body, (0, 2, 1)), ((1, 4), (2, 2)))
        self.assertEqual(self.of((put(2, 0, number(1)),) * 3, (1,)), ((0, 3), (0, 0)))
        self.assertEqual(self.of((), (1, 3)), ((0, 0), (0, 0)))

    def test_drawn_programs(self):
        for seed in range(60):
            buffers, body = drawn_program(seed)
            wanted = []
            for buffer, (role, _) in enumerate(buffers):
                if role == "main":
                    met = [place for place, one in enumerate(body) if self.names(one, buffer)] or [0]
                    wanted.append((met[0], len(body) if buffer == 5 else met[-1]))
            self.assertEqual(lives((buffers, body), (5, 0)), tuple(wanted))

    def names(self, thing, buffer):
        """The statement or expression names the buffer somewhere in it."""
        if not isinstance(thing, tuple) or not thing:
            return False
        named = {"put": (1,), "copy": (1, 3), "load": (1,), "pick": (1,)}.get(thing[0] if isinstance(thing[0], str) else "", ())
        return any(thing[k] == buffer for k in named) or any(self.names(part, buffer) for part in thing)


class Meeting(unittest.TestCase):
    def test_pairs(self):
        for one, other, wanted in (
                ((0, 2), (2, 5), True), ((0, 2), (3, 5), False), ((0, 0), (0, 0), True), ((0, 0), (1, 1), False),
                ((0, 9), (3, 4), True), ((3, 4), (0, 3), True), ((4, 4), (0, 3), False), ((0, 5), (5, 5), True)):
            self.assertIs(meet(one, other), wanted)
            self.assertIs(meet(other, one), wanted)


if __name__ == "__main__":
    unittest.main()
