"""Points 802 and 803."""

import unittest
from random import Random

from tensorcompiler.errors import FormError, MachineError, RangeError, TooLarge
from tensorcompiler.instructions import check_code

MACHINE = (32, 100, 64, 2, 4)
MOST = 2 ** 31

# An instruction of each name.
GOOD = (
    ("set", 1, 5), ("do", "add", 1, (2, 3), ()), ("do", "clamp", 1, (2,), (-5, 5)), ("load", 1, 2, 3), ("store", 1, 2, 3),
    ("mac", 1, 2, 3, 4, 5, 2), ("vector", "mul", 1, 2, 3, 2), ("loop", 1, 0, 1, 3), ("skip", 1, 0),
    ("in", 0, 1, 2, 3, 4, 5), ("out", 0, 1, 2, 3, 4, 5), ("wait", 0))

WAIT = ("wait", 0)
END = ("end",)
LOOP = ("loop", 1, 0, 1, 3)


def whole(instruction):
    """Code with the instruction that has no errors of its own."""
    return (instruction, END) if instruction[0] == "loop" else (instruction,)


def loops(many, *inside, count=1):
    return (("loop", 0, 0, 0, count),) * many + inside + (END,) * many


class Base(unittest.TestCase):
    def accept(self, *code, machine=MACHINE):
        self.assertIsNone(check_code(machine, code))

    def refuse(self, error, *code, machine=MACHINE):
        with self.assertRaises(error):
            check_code(machine, code)


class Forms(Base):
    def test_each_line(self):
        for instruction in GOOD:
            self.accept(*whole(instruction))
        self.accept()
        self.accept(*[one for instruction in GOOD for one in whole(instruction)])

    def test_a_word_too_many_or_too_few(self):
        for instruction in GOOD:
            for wrong in (instruction + (1,), instruction[:-1], instruction[:-1] + (1, 1), instruction[:1] + instruction):
                self.refuse(FormError, *whole(wrong))
        self.refuse(FormError, LOOP, ("end", 1))
        self.refuse(FormError, LOOP, ("end", ()))
        self.refuse(FormError, ())
        self.refuse(FormError, WAIT, ())

    def test_fields_of_a_wrong_kind(self):
        for instruction in GOOD:
            for place in range(1, len(instruction)):
                for wrong in (None, (), (1,), "x", "add", 1, ("x",), (None,), (1, "x", 2), ((1,),), "clamp"):
                    good = instruction[place]
                    if type(good) is type(wrong) and not (isinstance(wrong, tuple) and any(type(n) is not int for n in wrong)):
                        continue
                    self.refuse(FormError, *whole(instruction[:place] + (wrong,) + instruction[place + 1:]))
        for wrong in (5, None, "wait", ("wait",), (0, "wait"), (("wait",), 0), (None,), ((),)):
            self.refuse(FormError, wrong)
        self.refuse(FormError, ["wait", 0])
        self.refuse(FormError, ("do", "neg", 1, [1], ()))
        self.refuse(FormError, ("do", "neg", 1, (1,), []))

    def test_unknown_names_and_kinds(self):
        for name in ("", "odd", "Wait", "wait ", "add"):
            self.refuse(FormError, (name, 0))
        for kind in ("", "odd", "sum", "order", "input", "const", "dot", "gather", "Add"):
            for sources in ((), (1,), (1, 2)):
                for info in ((), ("k",), (1,)):
                    self.refuse(FormError, ("do", kind, 1, sources, info))
            self.refuse(FormError, ("vector", kind, 1, 2, 3, 2))

    def test_kinds_of_do(self):
        counts = {"neg": 1, "clamp": 1, "shift": 1, "where": 3}
        fields = {"clamp": (0, 1), "shift": (1,)}
        for kind in ("add", "sub", "mul", "max", "min", "less", "equal", "neg", "clamp", "shift", "where"):
            sources, info = tuple(range(counts.get(kind, 2))), fields.get(kind, ())
            self.accept(("do", kind, 1, sources, info))
            for others, further in (
                    (sources + (1,), info), (sources[1:], info), (sources, info + (1,)), ((), info),
                    (sources, info[1:] if info else (1, 2))):
                self.refuse(FormError, ("do", kind, 1, others, further))

    def test_kinds_of_vector(self):
        for kind in ("add", "sub", "mul", "max", "min", "less", "equal"):
            self.accept(("vector", kind, 1, 2, 3, 2))
        for kind in ("neg", "clamp", "shift", "where"):
            self.refuse(FormError, ("vector", kind, 1, 2, 3, 2))

    def test_loops_and_ends(self):
        self.accept(LOOP, END, LOOP, LOOP, END, WAIT, END)
        for code in ((END,), (LOOP,), (LOOP, END, END), (LOOP, LOOP, END), (END, LOOP), (LOOP, END, END, LOOP), (WAIT, END, LOOP)):
            self.refuse(FormError, *code)

    def test_skips(self):
        def skip(count):
            return ("skip", 1, count)

        for code in (
                (skip(1), WAIT), (skip(0),), (skip(2), WAIT, WAIT), (skip(2), LOOP, END), (LOOP, skip(1), WAIT, END),
                (LOOP, skip(0), END), (skip(3), LOOP, skip(0), END), (skip(4), LOOP, skip(1), WAIT, END),
                (LOOP, skip(4), LOOP, END, LOOP, END, END), (skip(1), skip(1), WAIT), (LOOP, END, skip(0))):
            self.accept(*code)
        for code in (
                # Behind the end of the code.
                (skip(1),), (skip(2), WAIT), (WAIT, skip(3), WAIT, WAIT), (skip(10 ** 9), WAIT), (skip(2 ** 300),),
                # An end whose loop begins before.
                (LOOP, skip(1), END), (LOOP, skip(2), WAIT, END), (LOOP, skip(2), END, WAIT), (LOOP, LOOP, skip(2), END, END),
                (LOOP, skip(3), LOOP, END, END, WAIT), (LOOP, skip(3), END, LOOP, END),
                # A loop whose end is behind.
                (skip(1), LOOP, END), (skip(2), LOOP, WAIT, END), (skip(3), WAIT, LOOP, WAIT, END),
                (skip(3), LOOP, LOOP, END, END), (skip(3), LOOP, END, LOOP, END), (LOOP, skip(1), LOOP, END, END),
                # Both.
                (LOOP, skip(2), END, LOOP, END), (LOOP, skip(3), END, LOOP, WAIT, END)):
            self.refuse(FormError, *code)

    def test_skips_with_a_negative_count_skip_nothing(self):
        for code in ((("skip", 1, -1),), (LOOP, ("skip", 1, -5), END), (("skip", 1, -1), LOOP, END)):
            self.refuse(RangeError, *code)

    def test_drawn_skips(self):
        """Against a search through the instructions that are skipped."""
        met = {True: 0, False: 0}
        for seed in range(500):
            random = Random(seed)
            code, depth = [], 0
            for _ in range(random.randint(1, 12)):
                what = random.choice((WAIT, LOOP, END, "skip"))
                if what == END and depth == 0:
                    what = WAIT
                depth += {LOOP: 1, END: -1}.get(what, 0)
                code.append(("skip", 1, random.randint(0, 5)) if what == "skip" else what)
            code += [END] * depth
            good = True
            for at, one in enumerate(code):
                if one[0] == "skip":
                    inside = code[at + 1:at + 1 + one[2]]
                    open_loops = 0
                    for other in inside:
                        open_loops += {"loop": 1, "end": -1}.get(other[0], 0)
                        good = good and open_loops >= 0
                    good = good and open_loops == 0 and len(inside) == one[2]
            met[good] += 1
            if good:
                self.accept(*code)
            else:
                self.refuse(FormError, *code)
        self.assertGreater(min(met.values()), 50)


class Ranges(Base):
    def check(self, low, high, make, machine=MACHINE):
        """The instructions that make makes are good from low to high, and no further."""
        for n in (low, high):
            self.accept(*whole(make(n)), machine=machine)
        for n in (low - 1, high + 1, -10 ** 100, 10 ** 100):
            self.refuse(RangeError, *whole(make(n)), machine=machine)

    def test_slots(self):
        places = {"set": (1,), "do": (2,), "load": (1, 2), "store": (1, 3), "mac": (1, 2, 4), "vector": (2, 3, 4), "loop": (1,),
                  "skip": (1,), "in": (2, 4), "out": (2, 4)}
        for instruction in GOOD:
            for place in places.get(instruction[0], ()):
                self.check(0, 31, lambda n: instruction[:place] + (n,) + instruction[place + 1:])
        for place in range(3):
            self.check(0, 31, lambda n: ("do", "where", 1, tuple(n if k == place else 0 for k in range(3)), ()))

    def test_queues(self):
        for queues in (1, 2, 4):
            machine = MACHINE[:3] + (queues, 4)
            self.check(0, queues - 1, lambda n: ("in", n, 1, 2, 3, 4, 5), machine)
            self.check(0, queues - 1, lambda n: ("out", n, 1, 2, 3, 4, 5), machine)
            self.check(0, queues - 1, lambda n: ("wait", n), machine)

    def test_numbers_that_are_set(self):
        self.check(-MOST, MOST - 1, lambda n: ("set", 1, n))
        self.check(-2 ** 99, 2 ** 99 - 1, lambda n: ("set", 1, n), (100,) + MACHINE[1:])

    def test_fields_of_do(self):
        self.check(1, 30, lambda n: ("do", "shift", 1, (2,), (n,)))
        self.check(-MOST, 7, lambda n: ("do", "clamp", 1, (2,), (n, 7)))
        self.check(7, MOST - 1, lambda n: ("do", "clamp", 1, (2,), (7, n)))
        self.accept(("do", "clamp", 1, (2,), (-MOST, MOST - 1)))
        # Beyond 200 bits even where the machine has more.
        self.check(-2 ** 200, 7, lambda n: ("do", "clamp", 1, (2,), (n, 7)), (256,) + MACHINE[1:])
        self.check(7, 2 ** 200, lambda n: ("do", "clamp", 1, (2,), (7, n)), (256,) + MACHINE[1:])

    def test_offsets_and_strides(self):
        for make in (
                lambda n: ("load", 1, 2, n), lambda n: ("store", 1, n, 2), lambda n: ("mac", 1, 2, n, 3, 0, 1),
                lambda n: ("mac", 1, 2, 0, 3, n, 1), lambda n: ("in", 0, 1, n, 2, 0, 1), lambda n: ("in", 0, 1, 0, 2, n, 1),
                lambda n: ("out", 0, 1, n, 2, 0, 1), lambda n: ("out", 0, 1, 0, 2, n, 1)):
            self.check(-16384, 16384, make)

    def test_counts(self):
        for lanes in (1, 4, 16):
            machine = MACHINE[:4] + (lanes,)
            self.check(1, lanes, lambda n: ("mac", 1, 2, 3, 4, 5, n), machine)
            self.check(1, lanes, lambda n: ("vector", "add", 1, 2, 3, n), machine)
        self.check(1, 1000, lambda n: ("loop", 1, 0, 1, n))
        self.check(1, 4096, lambda n: ("in", 0, 1, 2, 3, 4, n))
        self.check(1, 4096, lambda n: ("out", 0, 1, 2, 3, 4, n))

    def test_counts_of_skips(self):
        self.refuse(RangeError, ("skip", 1, -1))
        code = (WAIT,) * 4000001
        with self.assertRaises(RangeError):
            check_code(MACHINE, (("skip", 1, 4000001),) + code)
        # With 4000000 the count is good, but the code is too long.
        with self.assertRaises(TooLarge):
            check_code(MACHINE, (("skip", 1, 4000000),) + code[1:])

    def test_numbers_of_loops(self):
        for start, step, count in (
                (-MOST, 0, 1000), (MOST - 1, 0, 1000), (MOST - 1000, 1, 1000), (999 - MOST, -1, 1000), (0, 2 ** 32, 1),
                (0, -2 ** 32, 1), (-MOST, 2 ** 32 - 1, 2), (MOST - 1, 1 - 2 ** 32, 2), (0, MOST - 1, 2), (0, -MOST, 2)):
            self.accept(("loop", 1, start, step, count), END)
        for start, step, count in (
                (-MOST - 1, 0, 1), (MOST, 0, 1), (MOST - 999, 1, 1000), (998 - MOST, -1, 1000), (0, 2 ** 32 + 1, 1),
                (0, -2 ** 32 - 1, 1), (-MOST, 2 ** 32, 2), (0, MOST, 2), (0, -MOST - 1, 2), (2 ** 32 + 1, -2 ** 32, 2),
                (-MOST - 1, 1, 2), (MOST, -1, 2)):
            self.refuse(RangeError, ("loop", 1, start, step, count), END)

    def test_an_instruction_again(self):
        self.refuse(RangeError, *[WAIT] * 5, ("wait", 2), *[WAIT] * 5)
        self.accept(*[instruction for instruction in GOOD[:7] for _ in range(3)])


class Sizes(Base):
    def test_instructions(self):
        self.accept(*[WAIT] * 4000000)
        self.refuse(TooLarge, *[WAIT] * 4000001)

    def test_loops_around_an_instruction(self):
        self.accept(*loops(16, WAIT))
        self.refuse(TooLarge, *loops(17, WAIT))
        # The loop itself and its end have one loop less around them.
        self.accept(*loops(17))
        self.refuse(TooLarge, *loops(18))
        self.accept(*loops(15, *loops(1, WAIT), *loops(1, WAIT)), *loops(16, ("skip", 1, 0)))
        self.refuse(TooLarge, *loops(15, *loops(1, WAIT), *loops(2, WAIT)))

    def test_steps(self):
        # A loop of n turns around m instructions has 1 + n (m + 1) steps.
        inner = (("loop", 0, 0, 0, 1000), *[WAIT] * 998, END)
        thousand = (("loop", 1, 0, 0, 1000), *inner, END)
        steps = 1 + 1000 * (1 + 1000 * 999 + 1)
        self.assertEqual(steps, 999002001)
        self.accept(*thousand, *[WAIT] * (10 ** 9 - steps))
        self.refuse(TooLarge, *thousand, *[WAIT] * (10 ** 9 - steps + 1))
        rest = (("loop", 2, 0, 0, 1000), *[WAIT] * 996, END)
        self.accept(*thousand, *rest, *[WAIT] * (10 ** 9 - steps - 1 - 997000))
        self.refuse(TooLarge, *thousand, *rest, *[WAIT] * (10 ** 9 - steps - 997000))
        self.refuse(TooLarge, *loops(4, count=1000))
        self.refuse(TooLarge, *loops(16, WAIT, count=1000))
        # What stands around an inner loop counts too.
        inner = (("loop", 0, 0, 0, 1000), *[WAIT] * 996, END)
        code = (("loop", 1, 0, 0, 1000), WAIT, *inner, WAIT, WAIT, END)
        steps = 1 + 1000 * (1 + 1 + 1000 * 997 + 2 + 1)
        self.accept(*[WAIT] * (5 * 10 ** 5), *code, *[WAIT] * (10 ** 9 - steps - 5 * 10 ** 5))
        self.refuse(TooLarge, *[WAIT] * (5 * 10 ** 5), *code, *[WAIT] * (10 ** 9 - steps - 5 * 10 ** 5 + 1))

    def test_skipped_instructions_count(self):
        inner = (("loop", 0, 0, 0, 1000), *[WAIT] * 1000, END)
        code = (("loop", 1, 0, 0, 1000), *inner, END)
        self.refuse(TooLarge, *code)
        self.refuse(TooLarge, ("skip", 1, len(code)), *code)


class Orders(Base):
    def test_the_machine_first(self):
        for machine in ((31, 100, 64, 2, 4), (32, 0, 64, 2, 4), (32, 100, 15, 2, 4), (32, 100, 64, 5, 4), (32, 100, 64, 2, 17)):
            for code in ((), (("odd",),), (("wait", 9),)):
                self.refuse(MachineError, *code, machine=machine)

    def test_forms_ranges_sizes(self):
        deep = loops(17, WAIT)
        for bad in (("odd",), END, LOOP, ("do", "odd", 1, (), ()), ("skip", 1, 10 ** 9), ("vector", "neg", 1, 2, 3, 2), ()):
            self.refuse(FormError, ("wait", 9), *deep, bad)
            self.refuse(FormError, bad, *deep, ("wait", 9))
        for bad in (("wait", 9), ("set", 32, 0), ("skip", 1, -1), ("do", "shift", 1, (1,), (0,)), ("in", 0, 0, 0, 0, 0, 0)):
            self.refuse(RangeError, *deep, bad)
            self.refuse(RangeError, bad, *deep)
        self.refuse(RangeError, *loops(4, count=1000), ("wait", 9))


if __name__ == "__main__":
    unittest.main()
