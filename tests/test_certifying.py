"""Point 908."""

import unittest
from random import Random

from making import random_feeds, random_graph
from schedules import drawn_schedule, plain_schedule
from tensorcompiler.building import build
from tensorcompiler.certifying import certify
from tensorcompiler.device import run_code
from tensorcompiler.errors import (
    AxisError, FormError, MachineError, PlaceError, RangeError, TensorError, TooLarge, TooWide)
from tensorcompiler.meaning import evaluate
from tensorcompiler.notation import read_graph

TOP = 2 ** 31
MACHINE = (32, 10, 16, 2, 4)
# The input at 0 to 2, the const at 3 to 5, the outputs at 6 to 8 and at 9.
GRAPH = read_graph("input k3 -9 9\nconst k3 1 2 3\nadd 0 1\ndot 0 1 k\nout 2 3\n")
CONSTANTS = ((3, 1), (4, 2), (5, 3))
CODE = (
    ("in", 0, 0, 0, 0, 0, 6), ("wait", 0), ("set", 1, 3), ("set", 2, 6), ("vector", "add", 2, 0, 1, 3), ("mac", 3, 0, 1, 1, 1, 3),
    ("store", 0, 9, 3), ("out", 0, 0, 6, 0, 6, 3), ("out", 1, 0, 9, 0, 9, 1))


def ask(code=CODE, graph=GRAPH, machine=MACHINE, inputs=(0,), constants=CONSTANTS, outputs=(6, 9)):
    return certify(graph, machine, code, inputs, constants, outputs)


def asked_of(image, graph=None, code=None):
    return certify(image.graph if graph is None else graph, image.machine, image.code if code is None else code,
                   image.inputs, image.constants, image.outputs)


class Base(unittest.TestCase):
    def accept(self, *code, **named):
        self.assertIs(ask(code or CODE, **named), True)

    def reject(self, *code, **named):
        self.assertIs(ask(code or CODE, **named), False)

    def refuse(self, error, **named):
        with self.assertRaises(error):
            ask(**named)


class Answers(Base):
    def test_code_from_elsewhere(self):
        self.accept()
        # One product after another, in a loop, and the numbers of the const without it.
        turn = (("load", 2, 1, 0), ("do", "add", 3, (2, 4), ()), ("store", 1, 6, 3), ("do", "mul", 3, (2, 4), ()),
                ("do", "add", 5, (5, 3), ()), ("set", 3, 1), ("do", "add", 4, (4, 3), ()))
        code = (("in", 1, 0, 0, 0, 0, 3), ("wait", 1), ("set", 4, 1), ("loop", 1, 0, 1, 3)) + turn + (
            ("end",), ("store", 0, 9, 5), ("out", 0, 0, 6, 0, 6, 4))
        self.accept(*code)
        self.accept(*code, constants=())
        self.accept(*code, constants=((9, 5), (3, 77)))

    def test_other_transfers(self):
        for place, instruction in (
                (0, ("in", 0, 0, 0, 0, 0, 5)), (0, ("in", 1, 0, 0, 0, 0, 6)), (0, ("in", 0, 0, 1, 0, 0, 6)), (0, ("in", 0, 0, 0, 0, 1, 6)),
                (1, ("wait", 1)), (7, ("out", 0, 0, 6, 0, 6, 2)), (7, ("out", 0, 0, 5, 0, 6, 3)), (7, ("out", 0, 0, 6, 0, 5, 3)),
                (8, ("out", 1, 0, 8, 0, 9, 1)), (8, ("in", 1, 0, 0, 0, 9, 1)), (8, ("wait", 0))):
            self.reject(*CODE[:place], instruction, *CODE[place + 1:])
        # What does no harm: another queue, another order of the transfers.
        self.accept(*CODE[:7], CODE[8], CODE[7])
        self.accept(*CODE[:7], ("out", 1, 0, 6, 0, 6, 4))

    def test_other_instructions(self):
        for place, instruction in (
                (2, ("set", 1, 2)), (3, ("set", 2, 7)), (4, ("vector", "sub", 2, 0, 1, 3)), (4, ("vector", "add", 2, 0, 0, 3)),
                (4, ("vector", "add", 2, 0, 1, 2)), (5, ("mac", 3, 0, 1, 1, 1, 2)), (5, ("mac", 3, 0, 1, 0, 1, 3)), (5, ("mac", 3, 0, 1, 1, 0, 3)),
                (6, ("store", 0, 9, 2)), (6, ("set", 3, 0))):
            self.reject(*CODE[:place], instruction, *CODE[place + 1:])
        for place in range(9):
            self.reject(*CODE[:place], *CODE[place + 1:])
        # Sums and products have no order.
        self.accept(*CODE[:4], ("vector", "add", 2, 1, 0, 3), ("mac", 3, 1, 1, 0, 1, 3), *CODE[6:])
        self.accept(*CODE, ("wait", 0), ("set", 3, 5))

    def test_other_constants(self):
        for constants in (((3, 1), (4, 2), (5, 4)), ((3, 1), (4, 3), (5, 2)), ((3, 1), (4, 2)), (), ((3, 1), (4, 2), (9, 3))):
            self.reject(constants=constants)
        # In another order, and with a word elsewhere.
        self.accept(constants=((5, 3), (3, 1), (4, 2)))
        self.accept(constants=((3, 1), (4, 2), (5, 3), (6, 9)))

    def test_other_graphs(self):
        for lines in ("input k3 -9 9\nconst k3 1 2 3\nadd 0 1\ndot 0 0 k\nout 2 3", "input k3 -9 9\nconst k3 1 2 4\nadd 0 1\ndot 0 1 k\nout 2 3",
                      "input k3 -9 9\nconst k3 1 2 3\nsub 0 1\ndot 0 1 k\nout 2 3"):
            self.reject(graph=read_graph(lines + "\n"))
        # The same terms from other nodes.
        self.accept(graph=read_graph("input k3 -9 9\nconst k3 1 2 3\nmul 1 0\nsum 2 k\nneg 1\nsub 0 4\nout 5 3\n"))
        # For this input the sum of the products may not fit the machine.
        self.reject(graph=read_graph(f"input k3 0 {2 ** 30}\nconst k3 1 2 3\nadd 0 1\ndot 0 1 k\nout 2 3\n"))
        self.reject(graph=read_graph(f"input k3 -9 {2 ** 200}\nconst . 1\nout 1 1\n"), machine=(256, 10, 16, 2, 4))

    def test_errors_of_the_audit(self):
        for code in ((("load", 1, 0, 0),), (("load", 1, 0, 16),), (("in", 0, 0, 0, 0, 0, 1), ("load", 1, 0, 0)),
                     CODE[:2] + (("load", 1, 0, 0), ("store", 1, 3, 1)), (("set", 1, TOP - 1), ("do", "add", 1, (1, 1), ()))):
            self.reject(*code)
            # Even where the outputs stand there all the same.
            self.assertIs(ask(code, graph=(GRAPH[0], (0, 1)), outputs=(0, 3)), False)

    def test_words_that_are_not_set(self):
        self.reject(*CODE[:-1])
        self.reject(outputs=(6, 8))

    def test_empty_code(self):
        self.assertIs(ask((), graph=(GRAPH[0], (0, 1, 0)), outputs=(0, 3, 0)), True)
        self.assertIs(ask((), graph=(GRAPH[0], (0, 1, 0)), outputs=(0, 3, 1)), False)
        self.assertIs(ask(()), False)
        self.assertIs(certify(read_graph("const . 5\nneg 0\nout 1\n"), (32, 1, 16, 1, 1), (), (), ((0, -5),), (0,)), True)
        self.assertIs(certify(read_graph("const . 5\nneg 0\nout 1\n"), (32, 1, 16, 1, 1), (), (), ((0, 5),), (0,)), False)

    def test_inputs_of_one_number(self):
        # The term of such an input is a number.
        graph = read_graph("input . 7 7\nneg 0\nout 1\n")
        code = (("set", 1, -7), ("store", 0, 0, 1), ("out", 0, 0, 1, 0, 0, 1))
        self.assertIs(certify(graph, (32, 2, 16, 1, 1), code, (0,), (), (1,)), True)

    def test_outputs_may_be_one_on_another(self):
        graph = read_graph("input k3 -9 9\ncut 0 k 1 2\nout 0 1 1\n")
        self.assertIs(certify(graph, (32, 3, 16, 1, 1), (), (0,), (), (0, 1, 1)), True)

    def test_two_inputs_change_places(self):
        graph = read_graph("input k2 0 5\ninput . 0 5\nsub 1 0\nout 2\n")
        code = (("in", 0, 0, 0, 0, 0, 3), ("wait", 0), ("load", 1, 0, 0), ("load", 2, 0, 1), ("load", 3, 0, 2), ("do", "sub", 2, (1, 2), ()),
                ("do", "sub", 3, (1, 3), ()), ("store", 0, 3, 2), ("store", 0, 4, 3), ("out", 0, 0, 3, 0, 3, 2))
        self.assertIs(certify(graph, (32, 5, 16, 1, 1), code, (1, 0), (), (3,)), True)
        self.assertIs(certify(graph, (32, 5, 16, 1, 1), code, (0, 2), (), (3,)), False)


class Errors(Base):
    BAD = {"inputs": (), "constants": ((3, 2 ** 300),)}

    def test_graph_machine_and_code(self):
        bad_code, bad_machine = ((),), (31, 10, 16, 2, 4)
        self.refuse(FormError, graph=(GRAPH[0], ()), machine=bad_machine, code=(("wait", 9),), **self.BAD)
        self.refuse(AxisError, graph=(GRAPH[0] + (("sum", (0,), ("z",)),), (0,)), machine=bad_machine, code=bad_code, **self.BAD)
        self.refuse(MachineError, machine=bad_machine, code=bad_code, **self.BAD)
        self.refuse(FormError, code=bad_code, **self.BAD)
        self.refuse(RangeError, code=(("wait", 9),), **self.BAD)
        self.refuse(TooLarge, code=(("loop", 0, 0, 0, 1),) * 17 + (("wait", 0),) + (("end",),) * 17, **self.BAD)
        self.refuse(PlaceError, **self.BAD)

    def test_numbers_of_addresses(self):
        for inputs in ((), (0, 6), (0, 0)):
            self.refuse(PlaceError, inputs=inputs)
        for outputs in ((), (6,), (6, 9, 9)):
            self.refuse(PlaceError, outputs=outputs)

    def test_words_outside(self):
        for inputs in ((-1,), (8,), (10,), (-2 ** 70,), (2 ** 70,)):
            self.refuse(PlaceError, inputs=inputs, constants=())
        for outputs in ((8, 9), (-1, 9), (6, 10), (6, -1), (6, 2 ** 70)):
            self.refuse(PlaceError, outputs=outputs)
        for address in (-1, 10, 2 ** 70):
            self.refuse(PlaceError, constants=CONSTANTS + ((address, 4),))
        self.reject(inputs=(7,), constants=())
        self.reject(outputs=(7, 0))
        self.reject(constants=((9, 4), (3, 1)))

    def test_the_same_address_twice(self):
        for constants in (((3, 1), (3, 1)), ((3, 1), (4, 2), (3, 3)), ((0, 1),), ((2, 1),), CONSTANTS + ((5, 3),)):
            self.refuse(PlaceError, constants=constants)
        graph = read_graph("input k2 0 5\ninput k2 0 5\nout 0\n")
        for inputs in ((0, 1), (1, 0), (3, 3)):
            with self.assertRaises(PlaceError):
                certify(graph, MACHINE, (), inputs, (), (0,))
        self.assertIs(certify(graph, MACHINE, (), (0, 2), (), (0,)), True)
        # Outputs can stand where inputs and constants do.
        self.reject(outputs=(0, 3))

    def test_widths(self):
        self.refuse(TooWide, constants=CONSTANTS[:2] + ((5, TOP),))
        self.refuse(TooWide, constants=CONSTANTS + ((9, -TOP - 1),))
        self.reject(constants=CONSTANTS[:2] + ((5, TOP - 1),))
        self.reject(constants=CONSTANTS[:2] + ((5, -TOP),))
        for low, high in ((0, TOP), (-TOP - 1, 0), (-2 ** 200, 2 ** 200)):
            self.refuse(TooWide, graph=read_graph(f"input k3 {low} {high}\nconst k3 1 2 3\nout 0 1\n"), outputs=(0, 3))
        self.refuse(TooWide, graph=read_graph(f"input . 0 1\ninput . 0 {TOP}\nout 0\n"), inputs=(0, 1), constants=(), outputs=(0,), code=())
        self.assertIs(certify(read_graph(f"input . {-TOP} {TOP - 1}\nout 0\n"), MACHINE, (), (4,), (), (4,)), True)
        # Computed nodes can be as wide as they are.
        self.assertIs(certify(read_graph(f"input . {-TOP} {TOP - 1}\nmul 0 0\nout 0\n"), MACHINE, (), (4,), (), (4,)), True)

    def test_places_ahead_of_widths(self):
        self.refuse(PlaceError, constants=((3, TOP), (3, 1)))
        self.refuse(PlaceError, constants=((3, TOP), (10, 1)))
        self.refuse(PlaceError, constants=((3, TOP),), outputs=(6,))


class Images(Base):
    def test_the_code_of_an_image(self):
        for seed in range(60):
            random = Random(seed)
            graph = random_graph(seed, random.randint(4, 13))
            schedule = drawn_schedule(seed, graph) if seed % 2 else plain_schedule(graph)
            image = build(graph, schedule, (64, 3000, 1000, random.randint(1, 4), random.randint(1, 16)))
            self.assertIs(asked_of(image), True)

    def test_code_with_one_instruction_less_or_another(self):
        """What is certified still computes the graph; and most changes are found."""
        found = {True: 0, False: 0}
        for seed in range(40):
            random = Random(seed)
            graph = random_graph(seed, 7)
            image = build(graph, plain_schedule(graph), (64, 200, 64, 2, 4))
            if not image.code:
                continue
            for _ in range(6):
                code = self.changed(random, image.code)
                try:
                    answer = asked_of(image, code=code)
                except TensorError:
                    continue
                found[answer] += 1
                if answer:
                    self.runs(random, image, graph, code)
        self.assertGreater(found[False], 60)
        self.assertGreater(found[True], 5)

    def changed(self, random, code):
        place = random.randrange(len(code))
        if random.random() < 0.3:
            return code[:place] + code[place + 1:]
        fields = list(code[place])
        numbers = [k for k, field in enumerate(fields) if isinstance(field, int)]
        if not numbers:
            return code[:place] + code[place + 1:]
        fields[random.choice(numbers)] += random.choice((-1, 1))
        return code[:place] + (tuple(fields),) + code[place + 1:]

    def runs(self, random, image, graph, code):
        feeds = random_feeds(random.random(), graph)
        main = [random.randint(-99, 99) for _ in range(image.machine[1])]
        for address, feed in zip(image.inputs, feeds):
            main[address:address + len(feed)] = feed
        for address, word in image.constants:
            main[address] = word
        near = tuple(random.randint(-99, 99) for _ in range(image.machine[2]))
        after = run_code(image.machine, code, tuple(main), near, tuple(random.randint(0, 9) for _ in range(3)))
        for address, values in zip(image.outputs, evaluate(graph, feeds)):
            self.assertEqual(after[address:address + len(values)], values)


if __name__ == "__main__":
    unittest.main()
