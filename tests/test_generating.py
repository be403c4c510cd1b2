"""Point 901."""

import unittest
from random import Random

from codes import drawn_delays
from making import is_tuples
from programs import apply, copy, drawn_program, form, guard, load, loop, number, pick, put, when
from tensorcompiler.agreeing import program_terms
from tensorcompiler.auditing import audit_code
from tensorcompiler.device import run_code
from tensorcompiler.errors import MachineError
from tensorcompiler.generating import SPARE, generate
from tensorcompiler.instructions import check_code
from tensorcompiler.lives import lives, meet
from tensorcompiler.loops import check_program
from tensorcompiler.running import run_program
from tensorcompiler.terms import Terms


def variables(table, program, low=-9, high=9):
    """Terms for the words that are given: variables, and now and then a number."""
    given = []
    for number_of, size in enumerate([size for role, size in program[0] if role == "in"]):
        given.append(tuple(table.number(at) if at % 4 == 3 else table.variable((number_of, at), low, high) for at in range(size)))
    return tuple(given)


def room(program):
    """How many words of main memory and of the near memory the buffers have."""
    near = sum(size for role, size in program[0] if role == "near")
    return sum(size for _, size in program[0]) - near, near


def stacked(program, rows=None):
    """A layout without a gap in which the spare words stand behind all near buffers."""
    layout, main, near = [], 0, 0
    for role, size in program[0]:
        if role == "near":
            layout.append(near)
            near += size
        else:
            layout.append(main)
            main += size
    return tuple(layout), near


def drawn_layout(random, program, machine):
    """A layout with gaps, in which buffers of main memory share words if their lives do not meet; and the spare address."""
    found = dict(zip([k for k, (role, _) in enumerate(program[0]) if role == "main"], lives(program, ())))

    def apart(one, other):
        return one[0] + one[1] <= other[0] or other[0] + other[1] <= one[0]

    def free(buffer, role, size):
        """An address that is free for the buffer, or None."""
        if role == "near":
            found_here = [k for k in range(machine[2] - size + 1) if all(apart((k, size), other) for other in near)]
        else:
            found_here = [k for k in range(machine[1] - size + 1) if all(
                apart((k, size), row) or (role == "main" and life is not None and not meet(found[buffer], life))
                for row, life in taken)]
        return random.choice(found_here) if found_here else None

    while True:
        layout, taken, near = [], [], []
        for buffer, (role, size) in enumerate(program[0] + (("near", SPARE),)):
            place = free(buffer, role, size)
            if place is None:
                break
            layout.append(place)
            if role == "near":
                near.append((place, size))
            else:
                taken.append(((place, size), found.get(buffer)))
        else:
            return tuple(layout[:-1]), layout[-1]


class Base(unittest.TestCase):
    def check(self, program, machine=None, layout=None, low=-9, high=9, runs=2):
        """The audit accepts the code and finds the terms of the program; the device finds its words."""
        check_program(program)
        stack, spare = stacked(program)
        layout, spare = layout or (stack, spare)
        main, near = room(program)
        machine = machine or (64, max(1, main), near + SPARE, 1, 1)
        code = generate(machine, program, layout, spare)
        self.assertIsNone(check_code(machine, code))
        self.assertTrue(is_tuples(code))
        table = Terms()
        given = variables(table, program, low, high)
        expected = program_terms(table, program, given)
        before = [None] * machine[1]
        for words, place in zip(given, self.places(program, layout, "in")):
            before[place:place + len(words)] = words
        found = audit_code(table, machine, code, tuple(before))
        for buffer, words in self.wanted(program, layout, expected):
            for at, word in enumerate(words):
                if word is not None:
                    self.assertEqual(found[layout[buffer] + at], word, (buffer, at))
        for turn in range(runs):
            self.run_it(machine, program, layout, code, low, high, Random(turn))
        return code

    def places(self, program, layout, wanted):
        return [place for place, (role, _) in zip(layout, program[0]) if role == wanted]

    def wanted(self, program, layout, words):
        """The buffers of main memory, with their words, that no buffer is put over."""
        numbers = [k for k, (role, _) in enumerate(program[0]) if role == "main"]
        found = dict(zip(numbers, lives(program, ())))
        for buffer in numbers:
            later = [other for other in numbers if found[other][0] > found[buffer][0]]
            ends = layout[buffer] + program[0][buffer][1]
            if all(layout[other] >= ends or layout[other] + program[0][other][1] <= layout[buffer] for other in later):
                yield buffer, words[buffer]
        for buffer, (role, _) in enumerate(program[0]):
            if role == "in":
                yield buffer, words[buffer]

    def run_it(self, machine, program, layout, code, low, high, random):
        given = tuple(tuple(at if at % 4 == 3 else random.randint(low, high) for at in range(size))
                      for role, size in program[0] if role == "in")
        expected = run_program(program, given)
        main = [random.randint(-99, 99) for _ in range(machine[1])]
        for words, place in zip(given, self.places(program, layout, "in")):
            main[place:place + len(words)] = words
        near = tuple(random.randint(-99, 99) for _ in range(machine[2]))
        found = run_code(machine, code, tuple(main), near, drawn_delays(random.random()))
        for buffer, words in self.wanted(program, layout, expected):
            for at, word in enumerate(words):
                if word is not None:
                    self.assertEqual(found[layout[buffer] + at], word, (buffer, at))


# A given buffer of 12 words, two in main memory, and two near ones.
BUFFERS = (("in", 12), ("main", 12), ("near", 12), ("main", 12), ("near", 5))
I, J = form(0, (0, 1)), form(0, (1, 1))


def with_near(*body):
    """A program that first copies the given words to the near buffer 2 and to the buffer 3."""
    return (BUFFERS, (copy(2, 0, 0, 0, 12), copy(3, 0, 2, 0, 12)) + body)


class Parts(Base):
    def each(self, *exprs):
        """Programs that put an expression to main and to near memory."""
        for expr in exprs:
            self.check(with_near(put(1, 3, expr)))
            self.check(with_near(put(4, 3, expr), copy(1, 4, 4, 3, 1)))
            # In two loops, with the variables 5 and 2.
            self.check(with_near(("loop", 5, -1, 2, 2, (("loop", 2, 3, -1, 3, (put(1, form(3, (2, 1), (5, 2)), expr),)),))))

    def test_empty(self):
        self.assertEqual(self.check(((("in", 3), ("main", 2)), ())), ())
        self.assertEqual(generate((32, 1, 20, 1, 1), ((), ()), (), 0), ())
        self.assertEqual(SPARE, 20)

    def test_numbers_and_loads(self):
        self.each(number(0), number(-7), number(2 ** 63 - 1), number(-2 ** 63), load(0, 5), load(3, 11), load(2, 7),
                  ("index", form(-4096)), ("index", form(0)), ("index", form(17)))

    def test_each_kind(self):
        a, b, c = load(0, 5), load(3, 2), load(2, 8)
        for kind in ("add", "sub", "mul", "max", "min", "less", "equal"):
            self.each(apply(kind, a, b), apply(kind, c, c))
        self.each(apply("neg", a), apply("clamp", b, info=(-3, 4)), apply("shift", c, info=(2,)), apply("where", a, b, c),
                  apply("where", c, a, apply("where", b, number(5), c)))

    def test_guards(self):
        for n in (-5, -1, 0, 1, 5):
            self.each(guard(n, load(0, 5), load(2, 6)), guard(n, number(8), guard(-n, load(3, 4), number(9))),
                      apply("sub", load(0, 1), guard(n, load(0, 5), apply("add", load(2, 3), load(2, 4)))))

    def test_guards_with_variables(self):
        turns = form(-3, (0, 2)), form(1, (0, -1)), form(0, (0, 1), (1, -1))
        for condition in turns:
            inner = put(1, form(0, (0, 3), (1, 1)), guard(condition, load(0, form(11, (0, -1))), load(2, form(0, (1, 1)))))
            self.check(with_near(loop(0, 4, loop(1, 3, inner))))
        # What is not evaluated would read outside of the buffer, or words that are not set.
        self.check(with_near(loop(0, 12, put(1, I, guard(form(-4, (0, 1)), load(0, form(-4, (0, 1))), number(1))))))
        self.check(with_near(loop(0, 12, put(1, I, guard(form(-4, (0, 1)), load(1, form(-4, (0, 1))), number(1))))))

    def test_picks(self):
        index = load(0, 1)
        for buffer in (0, 2, 3):
            self.each(pick(buffer, 0, 1, 12, index), pick(buffer, 11, -1, 12, index), pick(buffer, 1, 3, 4, index),
                      pick(buffer, 4, 0, 16, index), pick(buffer, 10, -5, 3, apply("neg", index)), pick(buffer, 5, 9, 1, index),
                      pick(buffer, 2, 1, 4, number(2)), pick(buffer, 2, 1, 4, number(-2)), pick(buffer, 2, 1, 4, number(22)),
                      pick(buffer, 0, 2, 6, apply("add", index, index)), pick(buffer, 3, 1, 9, pick(0, 0, 1, 12, index)),
                      apply("sub", load(2, 0), pick(buffer, 0, 1, 5, apply("mul", index, load(2, 2)))),
                      pick(buffer, 0, 1, 12, apply("sub", number(3), apply("add", index, index))))
        self.check(with_near(loop(0, 4, loop(1, 3, put(1, form(0, (0, 3), (1, 1)), pick(
            3, form(1, (0, 1), (1, 2)), 1, 4, load(0, form(8, (1, 1)))))))))
        self.check(with_near(loop(0, 4, loop(1, 3, put(1, form(0, (0, 3), (1, 1)), pick(
            2, form(7, (0, 1), (1, -2)), -1, 4, load(0, form(8, (1, 1)))))))))

    def test_a_pick_whose_words_are_partly_not_set_elsewhere(self):
        # Only the words that the row has are read.
        body = (put(1, 0, load(0, 0)), put(1, 4, load(0, 1)), put(1, 8, load(0, 2)), put(3, 0, pick(1, 0, 4, 3, load(0, 4))))
        self.check((BUFFERS, body))

    def test_copies(self):
        self.check((BUFFERS, (copy(2, 2, 0, 1, 7), copy(1, 5, 2, 3, 6), copy(3, 0, 2, 8, 1))))
        self.check((BUFFERS, (loop(0, 3, loop(1, 2, copy(2, form(0, (0, 4), (1, 2)), 0, form(10, (0, -4), (1, -2)), 2))), copy(
            1, 0, 2, 0, 12))))
        # A loop over parts: copied in, changed and copied out again.
        part = form(0, (0, 4))
        self.check((BUFFERS, (loop(0, 3, copy(4, 0, 0, part, 4), loop(1, 4, put(4, J, apply("mul", load(4, J), load(0, J)))), copy(
            1, part, 4, 0, 4)),)))

    def test_words_that_are_not_set(self):
        self.check((BUFFERS, (put(1, 3, number(5)), put(4, 1, number(6)), copy(3, 2, 4, 1, 1))))


class Flow(Base):
    def test_loops(self):
        for start, step, count in ((0, 1, 12), (11, -1, 12), (1, 2, 5), (4, 0, 3), (7, 5, 1), (7, 2 ** 300, 1), (7, -2 ** 300, 1)):
            self.check((BUFFERS, (("loop", 3, start, step, count, (put(1, form(0, (3, 1)), ("index", form(2, (3, 7)))),)),)))
        self.check((BUFFERS, (("loop", 0, -1000, 2, 1000, (put(1, 0, ("index", I)),)),)))

    def test_eight_loops_with_forms_of_eight_variables(self):
        terms = tuple((k, (-1) ** k * (k + 1)) for k in range(8))
        body = (put(1, form(0, (0, 1)), apply("add", ("index", form(-4096, *terms)), pick(
            0, form(0, (0, 1), (1, 1), (2, 1), (3, 1), (4, 1), (5, 1), (6, 1), (7, 1)), 1, 2, load(0, form(0, (7, 3))))))),
        for variable in range(7, -1, -1):
            body = (loop(variable, 2, *body),)
        self.check((BUFFERS, body))
        # Variables need not be numbered by their loops.
        body = (put(1, form(0, (4, 2), (900, 4), (2 ** 70, 1)), ("index", form(1, (4, 5), (900, 7), (2 ** 70, -1)))),)
        for variable in (4, 2 ** 70, 900):
            body = (loop(variable, 2, *body),)
        self.check((BUFFERS, body))

    def test_the_same_variable_in_loops_behind_each_other(self):
        self.check((BUFFERS, (loop(5, 12, put(1, form(0, (5, 1)), number(1))), loop(2, 3, loop(5, 4, put(
            3, form(0, (2, 4), (5, 1)), apply("add", load(1, form(0, (5, 1))), ("index", form(0, (2, 1))))))), loop(5, 2, put(
                1, form(10, (5, 1)), load(3, form(0, (5, 1))))))))

    def test_whens(self):
        for n in (-3, -1, 0, 2):
            self.check(with_near(put(1, 0, number(4)), when(form(n), put(1, 0, load(0, 3)), loop(0, 3, put(1, I, load(2, I)))), put(
                3, 0, load(1, 0))))
        self.check(with_near(loop(0, 12, when(form(5, (0, -1)), put(1, I, load(0, I)), when(form(-2, (0, 1)), loop(1, 2, put(
            3, form(3, (0, 1), (1, 1)), ("index", form(0, (0, 10), (1, 1)))))))), put(1, 7, number(1))))
        # What is not executed may be wrong.
        self.check(with_near(when(form(-1), put(1, 4000, load(0, 4000)), copy(1, 4096, 2, 4000, 4096), put(
            2, form(-4096), pick(1, 4096, 4096, 16, number(1))), put(2, form(-4096), pick(1, -4096, -4096, 16, number(1))), put(
                2, 4096, pick(2, -4096, -4096, 16, load(2, 4096))))))

    def test_ten_levels(self):
        expr = load(0, 1)
        for level in range(9):
            expr = apply("where", load(0, level), load(2, level), expr)
        self.check(with_near(put(1, 0, expr)))
        expr = pick(0, 2, 1, 3, load(0, 1))
        for level in range(8):
            expr = apply("where", load(2, level), load(0, level), expr)
        self.check(with_near(loop(0, 2, put(1, I, expr))))
        expr = pick(2, form(1, (0, 1)), 2, 3, load(0, 1))
        for level in range(8):
            expr = apply("where", load(2, level), load(0, level), expr)
        self.check(with_near(loop(0, 2, put(1, I, expr))))
        expr = load(0, 1)
        for level in range(9):
            expr = guard(form(4 - level, (0, -1)), apply("sub", expr, number(1)) if level % 4 == 3 else expr, load(2, level))
            expr = expr if level % 4 != 3 else expr[2]
        self.check(with_near(loop(0, 6, put(1, I, expr))))
        expr = load(0, 1)
        for level in range(9):
            expr = pick(3 if level % 2 else 2, level, 1, 3, expr)
        self.check(with_near(put(1, 0, expr)))

    def test_ten_statements_around(self):
        body = (put(1, form(0, (0, 1), (2, 2), (4, 4)), ("index", form(0, (0, 1), (2, 10), (4, 100)))),)
        for level in range(9, -1, -1):
            body = (when(form(level), *body),) if level in (1, 3, 5, 7, 8, 9) else (loop(level, 2, *body),)
        self.check((BUFFERS, body))


class Memories(Base):
    def test_far_addresses(self):
        # The word at 16383 with the form 4096 - 4096 i is 4096 words behind what an offset can say.
        buffers = (("in", 1), ("main", 2), ("in", 2))
        machine, layout = (32, 16384, 20, 1, 1), ((0, 16380, 16382), 0)
        far = ("loop", 0, 1, 1, 1, (put(1, form(4096, (0, -4096)), load(2, form(4096, (0, -4095)))), put(
            1, form(4096, (0, -4095)), pick(2, form(4096, (0, -4096)), 1, 2, load(0, 0)))))
        self.check((buffers, (far,)), machine, layout)
        far = ("loop", 0, 1, 1, 1, (put(1, form(4096, (0, -4096)), pick(2, form(4096, (0, -4095)), -1, 2, load(0, 0))),))
        self.check((buffers, (far,)), machine, layout)
        buffers = (("near", 3), ("main", 2), ("in", 2))
        far = ("loop", 0, 1, 1, 1, (copy(0, form(4096, (0, -4095)), 2, form(4096, (0, -4096)), 2), copy(
            1, form(4096, (0, -4096)), 0, form(4096, (0, -4095)), 2)))
        self.check((buffers, (far,)), (32, 16384, 4096, 1, 1), ((4093, 16380, 16382), 4073))

    def test_large_buffers(self):
        buffers = (("in", 4096), ("main", 4096), ("near", 4076))
        self.check((buffers, (copy(2, 0, 0, 20, 4076), copy(1, 1, 2, 1, 4075), put(1, 0, load(2, 4075)))),
                   (32, 8192, 4096, 1, 1), low=-1, high=0, runs=1)

    def test_wide_terms_at_the_ends(self):
        # The intervals of the given terms and of each apply just fit.
        top = 2 ** 31
        body = (put(1, 0, apply("sub", load(0, 0), number(0))), put(1, 1, pick(0, 0, 1, 3, load(0, 1))), put(
            1, 2, apply("clamp", load(0, 2), info=(-top, top - 1))), put(1, 3, number(top - 1)), put(1, 4, number(-top)), put(
                1, 5, apply("min", load(0, 5), number(top - 1))))
        self.check((BUFFERS, body), (32, 36, 37, 1, 1), low=-top, high=top - 1)

    def test_shared_words(self):
        buffers = (("in", 4), ("main", 4), ("main", 3), ("main", 4), ("near", 4))
        body = (
            loop(0, 4, put(1, I, apply("neg", load(0, I)))),
            loop(0, 3, put(2, I, apply("add", load(1, I), load(1, form(1, (0, 1)))))),
            loop(0, 4, put(3, I, pick(2, 0, 1, 3, load(0, I)))))
        # Buffer 3 takes the place of buffer 1, or a part of it.
        self.assertEqual(lives((buffers, body), ()), ((0, 1), (1, 2), (2, 2)))
        for place in (4, 5, 7, 2 + 4):
            machine = (64, 20, 30, 1, 1)
            self.check((buffers, body), machine, ((0, 4, 15, place, 0), 6))

    def test_errors(self):
        for machine in ((31, 10, 20, 1, 1), (32, 0, 20, 1, 1), (32, 10, 15, 1, 1), (32, 10, 20, 5, 1), (32, 10, 20, 1, 17)):
            with self.assertRaises(MachineError):
                generate(machine, ((), ()), (), 0)


class Drawn(Base):
    def test_drawn_programs(self):
        for seed in range(160):
            random = Random(seed)
            program = drawn_program(seed)
            main, near = room(program)
            machine = (256, main + random.choice((5, 30)), near + SPARE + random.choice((60, 80)), random.randint(1, 4), random.randint(1, 16))
            layout, spare = drawn_layout(random, program, machine)
            self.check(program, machine, (layout, spare))
            # Exactly as many words as needed.
            self.check(program, (256, main, near + SPARE, 1, 1))

    def test_drawn_programs_with_short_lives(self):
        """Programs in which each buffer lives from one statement to the next."""
        shared = 0
        for seed in range(60):
            random = Random(seed)
            many = random.randint(2, 6)
            sizes = [random.randint(1, 6) for _ in range(many)]
            buffers = (("in", 6),) + tuple(("main", size) for size in sizes) + (("near", 6),)
            body = [loop(0, sizes[0], put(1, I, load(0, I)))]
            for k in range(1, many):
                value = pick(k, 0, 1, sizes[k - 1], load(0, form(0, (0, 1))))
                body.append(loop(0, sizes[k], put(k + 1, I, apply(random.choice(("add", "min", "sub")), value, load(0, I)))))
            program = (buffers, tuple(body))
            machine = (64, 6 + max(a + b for a, b in zip(sizes, sizes[1:])) + 3, 60, 2, 2)
            layout, spare = drawn_layout(random, program, machine) if many < 4 else (self.to_and_fro(sizes), 10)
            shared += len(list(self.wanted(program, layout, program[0]))) < many + 1
            self.check(program, machine, (layout, spare))
        self.assertGreater(shared, 20)

    def to_and_fro(self, sizes):
        """Places at the begin and at the end of main memory by turns."""
        end = 6 + max(a + b for a, b in zip(sizes, sizes[1:])) + 3
        return (0,) + tuple(end - size if k % 2 else 6 for k, size in enumerate(sizes)) + (0,)


if __name__ == "__main__":
    unittest.main()
