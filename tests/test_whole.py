"""Point 1 over the whole program: what was made by several of its parts runs on the accelerator."""

import unittest
from fractions import Fraction
from random import Random

from codes import drawn_delays
from making import given, node, random_feeds, random_graph
from models import random_model
from schedules import drawn_schedule, plain_schedule
from tensorcompiler.bounds import bound_of
from tensorcompiler.building import build
from tensorcompiler.certifying import certify
from tensorcompiler.errors import TensorError, TooWide
from tensorcompiler.gradients import gradient_graph
from tensorcompiler.images import run_image
from tensorcompiler.listing import read_code, write_code
from tensorcompiler.meaning import evaluate
from tensorcompiler.notation import read_graph, write_graph
from tensorcompiler.optimizing import optimize
from tensorcompiler.quantizing import decode_outputs, encode_feeds, quantize_graph
from tensorcompiler.scales import choose_table
from tensorcompiler.scheduling import tuned_schedule
from tensorcompiler.tangents import tangent_graph
from tensorcompiler.tidying import fold_constants, prune, share

MACHINE = (64, 16384, 1000, 2, 4)


class Base(unittest.TestCase):
    def on_device(self, graph, schedule, feeds, seed, machine=MACHINE):
        """The outputs of the graph on the accelerator, for a filler and delays that are drawn."""
        random = Random(seed)
        image = build(graph, schedule, machine)
        filler = tuple(random.randint(-99, 99) for _ in range(random.randint(1, 5)))
        return run_image(image, feeds, filler, drawn_delays(random.random()))


class Derivatives(Base):
    def drawn(self, make, count):
        made = 0
        for seed in range(count):
            graph = random_graph(seed, 9)
            try:
                slopes = make(graph, -3, 3)
            except TensorError:
                continue
            made += 1
            feeds = random_feeds(seed, slopes)
            schedule = tuned_schedule(slopes, MACHINE) if seed % 2 else plain_schedule(slopes)
            self.assertEqual(self.on_device(slopes, schedule, feeds, seed), evaluate(slopes, feeds))
        self.assertGreater(made, count // 2)

    def test_gradients(self):
        self.drawn(gradient_graph, 60)

    def test_tangents(self):
        self.drawn(tangent_graph, 60)

    def test_both_say_the_same(self):
        graph = read_graph("input k3i2 -5 5\ninput k3 -5 5\ndot 0 1 k\nconst . 0\nmax 2 3\nmul 4 4\nout 5 2\n")
        gradient, tangent = gradient_graph(graph, -4, 4), tangent_graph(graph, -4, 4)
        for seed in range(5):
            random = Random(seed)
            x, y = random_feeds(seed, graph)
            dx, dy = random_feeds(seed + 50, graph)
            dx, dy = (tuple(n % 9 - 4 for n in row) for row in (dx, dy))
            weights = tuple(tuple(random.randint(-4, 4) for _ in range(2)) for _ in range(2))
            gx, gy = self.on_device(gradient, plain_schedule(gradient), (x, y) + weights, seed)
            slopes = self.on_device(tangent, plain_schedule(tangent), (x, dx, y, dy), seed)
            left = sum(w * s for row, found in zip(weights, slopes) for w, s in zip(row, found))
            right = sum(g * d for row, found in ((gx, dx), (gy, dy)) for g, d in zip(row, found))
            self.assertEqual(left, right)


class Quantized(Base):
    def test_within_the_bound(self):
        made = 0
        for seed in range(50):
            random = Random(seed)
            graph, bits = random_model(seed, 8), random.choice((4, 8))
            table = choose_table(graph, bits)
            try:
                coded = quantize_graph(graph, table, bits)
            except TensorError:
                continue
            made += 1
            feeds = random_feeds(seed, graph)
            try:
                # Codes are small, but what is made of them on the way need not be.
                codes = self.on_device(coded, tuned_schedule(coded, MACHINE), encode_feeds(graph, table, bits, feeds), seed,
                                       (48, 16384, 64, 1, 1))
            except TooWide:
                self.fail("codes of a few bits do not fit 48")
            decoded = decode_outputs(graph, table, bits, codes)
            for bound, numbers, meanings in zip(bound_of(graph, table, bits), evaluate(graph, feeds), decoded):
                for n, meaning in zip(numbers, meanings):
                    self.assertLessEqual(abs(n - Fraction(*meaning)), Fraction(*bound))
        self.assertGreater(made, 30)


class Matrices(Base):
    """Matrices are multiplied in tiles, whose parts are brought to the near memory."""

    GRAPH = ((given("i6k4", -9, 9), given("k4j6", -9, 9), node("dot", (0, 1), "k")), (2,))

    def test_tiled_and_staged_loops(self):
        changes = (
            ("tile", (0,), 2), ("stage", (0,), 0, (0, ((3, 8),)), 8, "in"), ("stage", (0,), 1, (0, ()), 24, "in"),
            ("stage", (0,), 2, (0, ((3, 12),)), 12, "out"))
        schedule = ((), (2,), changes, (0,))
        machine = (32, 84, 8 + 24 + 12 + 20, 1, 1)
        image = build(self.GRAPH, schedule, machine)
        self.assertEqual([size for role, size in image.program[0] if role == "near"], [8, 24, 12])
        self.assertIs(certify(image.graph, machine, image.code, image.inputs, image.constants, image.outputs), True)
        plain = build(self.GRAPH, plain_schedule(self.GRAPH), machine)
        for seed in range(4):
            feeds = random_feeds(seed, self.GRAPH)
            for one in (image, plain):
                self.assertEqual(run_image(one, feeds, (seed, -5), drawn_delays(seed)), evaluate(self.GRAPH, feeds))

    def test_orders_of_loops(self):
        # The loops over i and j are exchanged and tiled, and the innermost one is turned round or unrolled.
        for changes in (
                (("swap", (0,)), ("tile", (0,), 3), ("reverse", (0,))), (("tile", (0, 0), 4),),
                (("unroll", (0, 0, 1)),), (("split", (0, 0), 1), ("tile", (0, 1), 3)), (("tile", (0,), 3), ("tile", (0, 0), 2), ("reverse", (0, 0)))):
            feeds = random_feeds(7, self.GRAPH)
            found = self.on_device(self.GRAPH, ((), (2,), changes, (0,)), feeds, 7)
            self.assertEqual(found, evaluate(self.GRAPH, feeds))


class Optimized(Base):
    def test_steps_as_part_of_a_schedule(self):
        shorter = 0
        cheaper = read_graph("input i3k3 -9 9\ninput k3 -9 9\nneg 0\nneg 2\nmul 3 1\nsum 4 k\nclamp 5 -999 999\nadd 6 6\nout 7\n")
        for seed in range(60):
            graph = random_graph(seed, 10) if seed else cheaper
            steps, result = optimize(graph, 6)
            shorter += len(steps) > 0
            _, kept, changes, places = plain_schedule(result)
            image = build(graph, (steps, kept, changes, places), MACHINE)
            self.assertEqual(image.graph, result)
            feeds = random_feeds(seed, graph)
            self.assertEqual(run_image(image, feeds, (seed,), drawn_delays(seed)), evaluate(graph, feeds))
        self.assertGreater(shorter, 5)

    def test_tidied_graphs(self):
        for seed in range(40):
            graph = random_graph(seed, 12)
            feeds = random_feeds(seed, graph)
            tidied = prune(share(fold_constants(optimize(graph, 5)[1])))
            self.assertEqual(self.on_device(tidied, tuned_schedule(tidied, MACHINE), feeds, seed), evaluate(graph, feeds))

    def test_texts(self):
        for seed in range(20):
            graph = random_graph(seed, 10)
            self.assertEqual(read_graph(write_graph(graph)), graph)
            image = build(graph, drawn_schedule(seed, graph), MACHINE)
            text = write_code(MACHINE, image.code)
            self.assertEqual(read_code(MACHINE, text), image.code)


if __name__ == "__main__":
    unittest.main()
