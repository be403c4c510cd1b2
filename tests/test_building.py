"""Points 902, 903 and 904."""

import unittest
from random import Random

from making import const, given, is_tuples, node, random_feeds, random_graph
from schedules import drawn_schedule, plain_schedule
from tensorcompiler.auditing import audit_code
from tensorcompiler.building import Image, build
from tensorcompiler.changes import apply_change
from tensorcompiler.device import Device
from tensorcompiler.errors import (
    AxisError, ChangeError, FormError, KeptError, MachineError, NoRoom, PlaceError, RuleError, TensorError, TooLarge, TooWide)
from tensorcompiler.generating import SPARE
from tensorcompiler.graph_terms import graph_terms
from tensorcompiler.graphs import check_graph
from tensorcompiler.images import load_image, run_image
from tensorcompiler.instructions import check_code
from tensorcompiler.lives import lives
from tensorcompiler.loops import check_program
from tensorcompiler.lowering import lower
from tensorcompiler.meaning import evaluate
from tensorcompiler.notation import read_graph
from tensorcompiler.placing import check_places
from tensorcompiler.rewriting import replay
from tensorcompiler.shapes import count_of
from tensorcompiler.terms import Terms

TOP = 2 ** 31
MACHINE = (64, 300, 64, 2, 4)

# Two negations of the sum of an input and a const; 6 given words, 3 words for each computed node.
GRAPH = read_graph("input k3 -9 9\nconst k3 1 2 3\nadd 0 1\nneg 2\nneg 3\nout 4 0\n")
PLAIN = ((), (2, 3, 4), (), (0, 3, 6))


class Attributes(unittest.TestCase):
    def test_a_plain_schedule(self):
        image = build(GRAPH, PLAIN, MACHINE)
        self.assertIsInstance(image, Image)
        self.assertEqual(image.graph, GRAPH)
        self.assertEqual(image.program, lower(GRAPH, (2, 3, 4))[0])
        self.assertEqual(image.machine, MACHINE)
        self.assertIsNone(check_code(MACHINE, image.code))
        self.assertTrue(is_tuples(image.code))
        self.assertEqual(image.inputs, (0,))
        self.assertEqual(image.constants, ((3, 1), (4, 2), (5, 3)))
        self.assertEqual(image.outputs, (12, 0))
        self.assertEqual(image.words, 15)

    def test_steps(self):
        steps = (("neg-neg", 4), ("add-swap", 2))
        image = build(GRAPH, (steps, (2,), (), (4,)), MACHINE)
        self.assertEqual(image.graph, replay(GRAPH, steps))
        self.assertEqual((image.inputs, image.outputs, image.words), ((0,), (10, 0), 13))
        self.assertEqual(image.program, lower(image.graph, (2,))[0])

    def test_few_kept_nodes(self):
        image = build(GRAPH, ((), (4,), (), (0,)), MACHINE)
        self.assertEqual((image.outputs, image.words, len(image.program[0])), ((6, 0), 9, 3))

    def test_places_that_share_words(self):
        # The node 2 is not read any more where the node 4 is made.
        image = build(GRAPH, ((), (2, 3, 4), (), (0, 3, 0)), MACHINE)
        self.assertEqual((image.outputs, image.words), ((6, 0), 12))
        image = build(GRAPH, ((), (2, 3, 4), (), (7, 3, 6)), MACHINE)
        self.assertEqual((image.outputs, image.words), ((12, 0), 16))
        self.assertEqual(run_image(image, ((1, -5, 9),), (4,), ()), ((2, -3, 12), (1, -5, 9)))

    def test_changes(self):
        changes = (("stage", (2,), 3, (0, ()), 3, "in"), ("tile", (0,), 2), ("reverse", (1,)))
        image = build(GRAPH, ((), (2, 3, 4), changes, (0, 3, 6)), MACHINE)
        program = lower(GRAPH, (2, 3, 4))[0]
        for change in changes:
            program = apply_change(program, change)
        self.assertEqual(image.program, program)
        self.assertEqual((image.graph, image.outputs, image.words), (GRAPH, (12, 0), 15))

    def test_several_inputs_and_outputs(self):
        graph = read_graph("const k2 5 6\ninput i2 0 9\nneg 1\nconst . 7\ninput . -3 3\nmul 4 0\nout 5 2 5 3 4 0\n")
        image = build(graph, ((), (2, 5), (), (1, 9)), MACHINE)
        self.assertEqual(image.inputs, (2, 5))
        self.assertEqual(image.constants, ((0, 5), (1, 6), (4, 7)))
        self.assertEqual(image.outputs, (15, 7, 15, 4, 5, 0))
        self.assertEqual(image.words, 17)

    def test_nothing_computed(self):
        graph = ((given("k2"), const("", 5)), (1, 0, 1))
        image = build(graph, ((), (), (), ()), (32, 3, 20, 1, 1))
        self.assertEqual((image.code, image.inputs, image.constants, image.outputs, image.words), ((), (0,), ((2, 5),), (2, 0, 2), 3))
        image = build(((given("k2"), node("neg", (0,))), (0,)), ((), (), (), ()), (32, 2, 20, 1, 1))
        self.assertEqual((image.code, image.words), ((), 2))

    def test_no_inputs(self):
        graph = ((const("k2", 4, -4), node("neg", (0,))), (1,))
        image = build(graph, plain_schedule(graph), (32, 4, 20, 1, 1))
        self.assertEqual((image.inputs, image.constants), ((), ((0, 4), (1, -4))))
        self.assertEqual(run_image(image, (), (0,), ()), ((-4, 4),))

    def test_kinds_of_values(self):
        image = build(GRAPH, PLAIN, MACHINE)
        for value in (image.graph, image.program, image.machine, image.code, image.inputs, image.constants, image.outputs):
            self.assertIsInstance(value, tuple)
        for value in (image.program, image.inputs, image.constants, image.outputs, image.words):
            self.assertNotIn(True, [value])
        self.assertTrue(is_tuples((image.graph, image.inputs, image.constants, image.outputs, image.words)))


class Rooms(unittest.TestCase):
    def test_main_memory(self):
        build(GRAPH, PLAIN, (64, 15, 20, 1, 1))
        for main in (1, 5, 14):
            with self.assertRaises(NoRoom):
                build(GRAPH, PLAIN, (64, main, 20, 1, 1))
        build(GRAPH, ((), (2, 3, 4), (), (0, 3, 0)), (64, 12, 20, 1, 1))
        with self.assertRaises(NoRoom):
            build(GRAPH, ((), (2, 3, 4), (), (0, 3, 0)), (64, 11, 20, 1, 1))
        # An address far behind counts.
        build(GRAPH, ((), (2, 3, 4), (), (0, 91, 6)), (64, 100, 20, 1, 1))
        with self.assertRaises(NoRoom):
            build(GRAPH, ((), (2, 3, 4), (), (0, 92, 6)), (64, 100, 20, 1, 1))
        with self.assertRaises(NoRoom):
            build(GRAPH, ((), (2, 3, 4), (), (0, 2 ** 70, 6)), (64, 100, 20, 1, 1))

    def test_near_memory(self):
        self.assertEqual(SPARE, 20)
        build(GRAPH, PLAIN, (64, 15, 20, 1, 1))
        with self.assertRaises(NoRoom):
            build(GRAPH, PLAIN, (64, 15, 19, 1, 1))
        changes = (("stage", (2,), 3, (0, ()), 3, "in"), ("stage", (0,), 0, (0, ()), 2 + 1, "in"))
        staged = ((), (2, 3, 4), changes, (0, 3, 6))
        image = build(GRAPH, staged, (64, 15, 26, 1, 1))
        self.assertEqual(run_image(image, ((1, -5, 9),), (4,), ()), ((2, -3, 12), (1, -5, 9)))
        with self.assertRaises(NoRoom):
            build(GRAPH, staged, (64, 15, 25, 1, 1))

    def test_near_buffers_stand_in_a_row(self):
        # The first near buffer holds the node 3, the second one the input.
        changes = (("stage", (2,), 3, (0, ()), 3, "in"), ("stage", (0,), 0, (0, ()), 3, "in"))
        image = build(GRAPH, ((), (2, 3, 4), changes, (0, 3, 6)), (64, 15, 26, 1, 1))
        feeds = ((1, -5, 9),)
        device = Device(image.machine, image.code, load_image(image, feeds, (0,)), (0,) * 26, ())
        while device.step():
            pass
        self.assertEqual([device.near_word(k) for k in range(6)], [-2, 3, -12, 1, -5, 9])
        self.assertEqual(run_image(image, feeds, (0,), ()), evaluate(GRAPH, feeds))

    def test_large_memories(self):
        build(GRAPH, PLAIN, (256, 16384, 4096, 4, 16))
        build(GRAPH, ((), (2, 3, 4), (), (0, 3, 16384 - 9)), (64, 16384, 20, 1, 1))


class Widths(unittest.TestCase):
    def build(self, *lines, width=32, outs=None, changes=()):
        graph = read_graph("".join(line + "\n" for line in lines) + f"out {len(lines) - 1 if outs is None else outs}\n")
        _, kept, _, places = plain_schedule(graph)
        return build(graph, ((), kept, changes, places), (width, 300, 64, 1, 1))

    def accept(self, *lines, **named):
        self.build(*lines, **named)

    def refuse(self, *lines, **named):
        with self.assertRaises(TooWide):
            self.build(*lines, **named)

    def test_inputs(self):
        self.accept(f"input k2 {-TOP} {TOP - 1}")
        self.refuse(f"input k2 {-TOP} {TOP}")
        self.refuse(f"input k2 {-TOP - 1} 0")
        self.accept(f"input k2 {-TOP - 1} {TOP}", width=33)
        # Even those that nothing needs.
        self.refuse(f"input k2 0 {TOP}", "const . 4")

    def test_data(self):
        self.accept(f"const k2 {-TOP} {TOP - 1}")
        self.refuse(f"const k3 1 2 {TOP}")
        self.refuse(f"const k3 {-TOP - 1} 0 0")
        self.refuse(f"const k3 1 2 {TOP}", "input . 0 0")
        self.accept(f"const . {2 ** 200}", width=202)
        self.refuse(f"const . {2 ** 200}", width=201)

    def test_fields_of_clamp(self):
        self.accept("input . 0 9", f"clamp 0 {-TOP} {TOP - 1}")
        self.refuse("input . 0 9", f"clamp 0 0 {TOP}")
        self.refuse("input . 0 9", f"clamp 0 {-TOP - 1} 5")
        self.refuse("input . 0 9", f"clamp 0 {TOP} {TOP}")
        # A clamp that the program does not have does not count.
        graph = read_graph(f"input . 0 9\nclamp 0 0 {TOP}\nneg 0\nout 2\n")
        build(graph, ((), (2,), (), (0,)), (32, 300, 64, 1, 1))
        with self.assertRaises(TooWide):
            build(graph, ((), (1, 2), (), (0, 1)), (32, 300, 64, 1, 1))
        # One that is removed by a step does not, either.
        graph = read_graph(f"input . 0 9\nclamp 0 0 {TOP}\nneg 1\nout 2\n")
        build(graph, ((("clamp-none", 1),), (1,), (), (0,)), (32, 300, 64, 1, 1))
        # One of a when that is never executed does.
        graph = read_graph(f"input k2 0 9\nclamp 0 0 {TOP}\nout 1\n")
        with self.assertRaises(TooWide):
            build(graph, ((), (1,), (("tile", (0,), 2),), (0,)), (32, 300, 64, 1, 1))

    def test_terms(self):
        half = 2 ** 30
        self.accept(f"input . {-half} {half - 1}", "add 0 0")
        self.refuse(f"input . {-half} {half}", "add 0 0")
        self.refuse(f"input . {-half - 1} 0", "add 0 0")
        self.accept(f"input . {1 - TOP} 0", "neg 0")
        self.refuse(f"input . {-TOP} 0", "neg 0")
        self.accept(f"input . 0 {2 ** 16}", f"const . {2 ** 15 - 1}", "mul 0 1")
        self.refuse(f"input . 0 {2 ** 16}", f"const . {2 ** 15}", "mul 0 1")
        self.accept(f"input k2 {-half} {half - 1}", "sum 0 k")
        self.refuse(f"input k2 {-half} {half}", "sum 0 k")
        # The products of a dot, and what comes before a rounding.
        self.refuse(f"input k2 {-half} {half}", f"input k2 0 2", "dot 0 1 k", "shift 2 5")
        self.refuse(f"input . 0 {half}", "add 0 0", "shift 1 5")
        self.refuse(f"input . 0 {half}", "add 0 0", "neg 0", outs=2)

    def test_terms_that_are_narrower_than_their_nodes(self):
        # x - x is 0, and numbers are narrower than the interval of their const.
        self.accept(f"input . {-TOP} {TOP - 1}", "sub 0 0")
        self.accept(f"const k2 0 {TOP - 1}", "const k2 1 -1", "add 0 1")
        self.refuse(f"input k2 0 {TOP - 1}", "const k2 1 -1", "add 0 1")
        # A sum whose order a change turns round goes beyond the ends on its way.
        sums = (f"const k3 -5 {TOP - 1} 3", "sum 0 k")
        self.accept(*sums)
        self.refuse(*sums, changes=(("reverse", (1,)),))

    def test_numbers_of_lanes_and_queues_do_not_matter(self):
        for queues, lanes in ((1, 1), (4, 16)):
            build(GRAPH, PLAIN, (32, 15, 20, queues, lanes))

    def test_no_changes_and_intervals_that_fit(self):
        """Then there is no TooWide."""
        for seed in range(80):
            graph = random_graph(seed, 16)
            build(graph, plain_schedule(graph), (32, 16384, 64, 1, 1))


class Errors(unittest.TestCase):
    """The errors in their order: each stands beside all that come behind it."""

    WIDE = read_graph(f"input k3 -9 9\nconst k3 1 2 {TOP}\nadd 0 1\nneg 2\nneg 3\nout 4 0\n")

    def refuse(self, error, graph=None, steps=(), kept=(2, 3, 4), changes=(), places=(0, 3, 6), machine=(32, 15, 20, 1, 1)):
        with self.assertRaises(error):
            build(GRAPH if graph is None else graph, (steps, kept, changes, places), machine)

    def test_graphs_and_machines(self):
        bad = {"steps": (("odd", 1),), "kept": (0,), "changes": (("odd", (0,)),), "places": ()}
        self.refuse(FormError, graph=(GRAPH[0], ()), machine=(31, 15, 20, 1, 1), **bad)
        self.refuse(AxisError, graph=(GRAPH[0] + (node("sum", (0,), "z"),), (0,)), machine=(31, 15, 20, 1, 1), **bad)
        self.refuse(MachineError, machine=(31, 15, 20, 1, 1), **bad)
        for machine in ((257, 15, 20, 1, 1), (32, 0, 20, 1, 1), (32, 16385, 20, 1, 1), (32, 15, 15, 1, 1), (32, 15, 20, 0, 1),
                        (32, 15, 20, 5, 1), (32, 15, 20, 1, 17)):
            self.refuse(MachineError, machine=machine, **bad)

    def test_steps(self):
        for steps in ((("odd", 1),), (("neg-neg", 3),), (("neg-neg", 4), ("neg-neg", 4)), (("neg-neg", 9),)):
            self.refuse(RuleError, steps=steps, kept=(0,), changes=(("odd", (0,)),), places=(), graph=self.WIDE)

    def test_kept(self):
        for kept in ((), (0,), (2, 3), (4, 3), (3, 2, 4), (4, 5)):
            self.refuse(KeptError, kept=kept, changes=(("odd", (0,)),), places=(), graph=self.WIDE)
        # Nodes are numbered as in the rewritten graph.
        self.refuse(KeptError, steps=(("neg-neg", 4),), kept=(2, 3, 4), places=())
        build(GRAPH, ((("neg-neg", 4),), (2, 3), (), (0, 3)), (32, 15, 20, 1, 1))
        self.refuse(KeptError, graph=read_graph("input k2 0 9\nsum 0 k\nout 0\n"), kept=(), places=())

    def test_errors_of_the_program(self):
        rows = ["input . -1 1"] + [f"neg {place}" for place in range(12)]
        deep = read_graph("\n".join(rows) + "\nout 12\n")
        self.refuse(TooLarge, graph=deep, kept=(12,), changes=(("odd", (0,)),), places=())
        self.refuse(KeptError, graph=deep, kept=(0, 12), places=())

    def test_changes(self):
        good = ("tile", (0,), 2)
        for changes in ((("odd", (0,)),), (("tile", (0,), 0),), (("tile", (7,), 2),), (good, ("tile", (0, 0, 0), 2)),
                        (good, ("fuse", (0,))), (("stage", (2,), 3, (0, ()), 2, "in"),), (("split", (0,), 1), good)):
            self.refuse(ChangeError, changes=changes, places=(), graph=self.WIDE)
        self.refuse(PlaceError, changes=(good,), places=())

    def test_widths_ahead_of_places(self):
        self.refuse(TooWide, graph=self.WIDE, places=())
        self.refuse(TooWide, graph=self.WIDE, places=(0, 0, 0))
        self.refuse(PlaceError, graph=self.WIDE, places=(0, 0, 0), machine=(64, 15, 20, 1, 1))

    def test_places_ahead_of_rooms(self):
        small = (32, 1, 19, 1, 1)
        for places in ((), (0, 3), (0, 3, 6, 9), (-1, 3, 6), (0, 0, 6), (0, 2, 6), (0, 3, 5), (0, 6, 6), (0, 3, -2)):
            self.refuse(PlaceError, places=places, machine=small)
        self.refuse(NoRoom, machine=small)
        self.refuse(NoRoom, machine=(32, 15, 19, 1, 1))
        self.refuse(NoRoom, machine=(32, 14, 20, 1, 1))

    def test_outputs_live_to_the_end(self):
        graph = (GRAPH[0], (2, 4))
        self.refuse(PlaceError, graph=graph, places=(0, 3, 0))
        build(graph, ((), (2, 3, 4), (), (0, 3, 6)), MACHINE)
        # An output that a step leaves is one, too.
        self.refuse(PlaceError, steps=(("neg-neg", 4),), kept=(2, 3), places=(0, 0))
        build(GRAPH, ((), (2, 3, 4), (), (0, 3, 0)), MACHINE)

    def test_arguments_stay(self):
        schedule = ((("add-swap", 2),), (2, 3, 4), (("tile", (0,), 2),), (0, 3, 6))
        build(GRAPH, schedule, MACHINE)
        self.assertEqual(schedule, ((("add-swap", 2),), (2, 3, 4), (("tile", (0,), 2),), (0, 3, 6)))


class Drawn(unittest.TestCase):
    def test_the_audit_accepts_the_code(self):
        changes = 0
        for seed in range(120):
            random = Random(seed)
            graph = random_graph(seed, random.randint(4, 14))
            schedule = drawn_schedule(seed, graph)
            machine = (random.choice((32, 64, 256)), 16384, 4096, random.randint(1, 4), random.randint(1, 16))
            try:
                image = build(graph, schedule, machine)
            except TooWide:
                self.assertEqual(machine[0], 32)
                continue
            self.check(image, graph, schedule, machine)
            changes += len(schedule[2])
            feeds = random_feeds(seed, graph)
            self.assertEqual(run_image(image, feeds, (random.randint(-9, 9),), ()), evaluate(graph, feeds))
            # Exactly as much room as the image has, and one word less.
            near = sum(size for role, size in image.program[0] if role == "near") + SPARE
            exact = (256, image.words, near, 1, 1)
            self.assertEqual(build(graph, schedule, exact).words, image.words)
            for small in ((256, image.words - 1, near, 1, 1), (256, image.words, near - 1, 1, 1)):
                with self.assertRaises(TensorError) as caught:
                    build(graph, schedule, small)
                self.assertIsInstance(caught.exception, NoRoom)
        self.assertGreater(changes, 60)

    def check(self, image, graph, schedule, machine):
        steps, kept, changes, places = schedule
        self.assertEqual(image.graph, replay(graph, steps))
        check_program(image.program)
        program, buffers = lower(image.graph, kept)
        for change in changes:
            program = apply_change(program, change)
        self.assertEqual(image.program, program)
        self.assertEqual(image.machine, machine)
        # Everything stands where point 902 says.
        shapes = [count_of(shape) for shape, _, _ in check_graph(image.graph)]
        addresses, end = {}, 0
        for place, one in enumerate(image.graph[0]):
            if one[0] in ("input", "const"):
                addresses[place] = end
                end += shapes[place]
        for node_of, place in zip(kept, places):
            addresses[node_of] = end + place
        sizes = [size for role, size in program[0] if role == "main"]
        used = check_places(lives(program, tuple(buffers[out] for out in image.graph[1])), sizes, places)
        self.assertEqual(image.words, end + used)
        self.assertEqual(image.inputs, tuple(addresses[k] for k, one in enumerate(image.graph[0]) if one[0] == "input"))
        self.assertEqual(image.outputs, tuple(addresses[out] for out in image.graph[1]))
        self.assertEqual(image.constants, tuple(
            (addresses[k] + at, word) for k, one in enumerate(image.graph[0]) if one[0] == "const" for at, word in enumerate(one[2][1])))
        table = Terms()
        terms = graph_terms(table, image.graph)
        main = [None] * machine[1]
        for place, address in addresses.items():
            if image.graph[0][place][0] in ("input", "const"):
                main[address:address + shapes[place]] = terms[place]
        found = audit_code(table, machine, image.code, tuple(main))
        for out in image.graph[1]:
            self.assertEqual(found[addresses[out]:addresses[out] + shapes[out]], terms[out])


if __name__ == "__main__":
    unittest.main()
