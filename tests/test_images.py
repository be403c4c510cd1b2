"""Points 904, 905 and 906."""

import unittest
from random import Random

from codes import drawn_delays
from making import const, given, is_tuples, node, random_feeds, random_graph, shape_of
from schedules import drawn_schedule, plain_schedule
from tensorcompiler.building import build
from tensorcompiler.device import run_code
from tensorcompiler.errors import FeedError, RangeError, TooWide
from tensorcompiler.graphs import check_graph
from tensorcompiler.images import load_image, run_image, unload_image
from tensorcompiler.kinds import KINDS
from tensorcompiler.meaning import evaluate
from tensorcompiler.notation import read_graph

TOP = 2 ** 31
GRAPH = read_graph("input k2 -9 9\nconst k2 3 4\ninput . 0 5\nmul 0 1\nadd 3 2\nout 4 2 4\n")
MACHINE = (32, 12, 22, 2, 4)
IMAGE = build(GRAPH, ((), (3, 4), (), (1, 3)), MACHINE)
FEEDS = ((-9, 9), (5,))


class Loading(unittest.TestCase):
    def test_words(self):
        self.assertEqual((IMAGE.inputs, IMAGE.constants, IMAGE.words), ((0, 4), ((2, 3), (3, 4)), 10))
        self.assertEqual(load_image(IMAGE, FEEDS, (7,)), (-9, 9, 3, 4, 5) + (7,) * 7)
        # The filler goes by the address, not by how many words were filled.
        self.assertEqual(load_image(IMAGE, FEEDS, (10, 11, 12)), (-9, 9, 3, 4, 5, 12, 10, 11, 12, 10, 11, 12))
        self.assertEqual(load_image(IMAGE, FEEDS, tuple(range(20))), (-9, 9, 3, 4, 5, 5, 6, 7, 8, 9, 10, 11))
        self.assertTrue(is_tuples(load_image(IMAGE, FEEDS, (7,))))

    def test_fillers_that_do_not_fit(self):
        for filler in ((), (TOP,), (-TOP - 1,), (0, 0, TOP), (1,) * 30 + (TOP,)):
            for call in (lambda: load_image(IMAGE, FEEDS, filler), lambda: run_image(IMAGE, FEEDS, filler, ())):
                with self.assertRaises(FeedError):
                    call()
        for filler in ((TOP - 1,), (-TOP,), (TOP - 1, -TOP)):
            self.assertEqual(run_image(IMAGE, FEEDS, filler, ()), evaluate(GRAPH, FEEDS))

    def test_errors_of_feeds_come_first(self):
        for feeds, error in (
                ((), FeedError), (FEEDS[:1], FeedError), (FEEDS + ((1,),), FeedError), (((1,), (5,)), FeedError),
                (((1, 2, 3), (5,)), FeedError), (((10, 0), (5,)), RangeError), (((-9, -10), (5,)), RangeError), (((1, 2), (6,)), RangeError),
                (((1, 2), (-1,)), RangeError), (((1, 2), (5, 5)), FeedError), (((10, 2), (5, 5)), RangeError)):
            for filler in ((1,), (), (TOP,)):
                with self.assertRaises(error):
                    load_image(IMAGE, feeds, filler)
                with self.assertRaises(error):
                    run_image(IMAGE, feeds, filler, (-1,))

    def test_unload(self):
        self.assertEqual(IMAGE.outputs, (8, 4, 8))
        self.assertEqual(unload_image(IMAGE, tuple(range(100, 112))), ((108, 109), (104,), (108, 109)))
        self.assertTrue(is_tuples(unload_image(IMAGE, tuple(range(12)))))

    def test_no_words_to_fill(self):
        image = build(((given("k2"),), (0,)), ((), (), (), ()), (32, 2, 20, 1, 1))
        self.assertEqual(load_image(image, ((3, 4),), (9,)), (3, 4))
        self.assertEqual(run_image(image, ((3, 4),), (9,), (1,)), ((3, 4),))


class Running(unittest.TestCase):
    def test_outputs(self):
        self.assertEqual(run_image(IMAGE, FEEDS, (7,), ()), ((-22, 41), (5,), (-22, 41)))
        self.assertTrue(is_tuples(run_image(IMAGE, FEEDS, (7,), ())))
        for delays in ((0,), (5, 0, 1), (1000,), (0, 2 ** 100)):
            self.assertEqual(run_image(IMAGE, FEEDS, (1, 2), delays), evaluate(GRAPH, FEEDS))

    def test_it_runs_the_code(self):
        main = load_image(IMAGE, FEEDS, (7, 8))
        near = tuple(7 + at % 2 for at in range(22))
        self.assertEqual(unload_image(IMAGE, run_code(MACHINE, IMAGE.code, main, near, (3,))), run_image(IMAGE, FEEDS, (7, 8), (3,)))

    def test_delays(self):
        for delays in ((-1,), (0, 0, -5), (3, -2 ** 80)):
            with self.assertRaises(FeedError):
                run_image(IMAGE, FEEDS, (1,), delays)
        # Even if nothing is transferred.
        image = build(((given("k2"),), (0,)), ((), (), (), ()), (32, 2, 20, 1, 1))
        with self.assertRaises(FeedError):
            run_image(image, ((3, 4),), (9,), (-1,))

    def test_arguments_stay(self):
        feeds, filler, delays = ((1, 2), (3,)), (4, 5), (6, 0)
        before = dict(vars(IMAGE))
        run_image(IMAGE, feeds, filler, delays)
        self.assertEqual((feeds, filler, delays, vars(IMAGE)), (((1, 2), (3,)), (4, 5), (6, 0), before))

    def test_the_near_memory_is_filled_in_the_same_way(self):
        # Code that copies the near memory to where the output is.
        image = build(((given("k2"), given("i4n4", 0, 99)), (1,)), ((), (), (), ()), (32, 18, 20, 1, 1))
        image.code = (("out", 0, 0, 2, 0, 0, 16),)
        self.assertEqual(run_image(image, ((3, 4), (0,) * 16), (5, 6, 7), ()), ((tuple(5 + at % 3 for at in range(16)),)))


# A graph for each kind, with inputs that reach everything that the kind can do.
EACH = {
    "input": "out 0 1", "const": "const k3 1 -2 3\nout 2", "add": "add 0 1\nout 2", "sub": "sub 1 0\nout 2", "mul": "mul 0 1\nout 2",
    "max": "max 0 1\nout 2", "min": "min 0 1\nout 2", "less": "less 0 1\nout 2", "equal": "equal 0 1\nout 2", "neg": "neg 0\nout 2",
    "clamp": "clamp 0 -2 3\nout 2", "shift": "shift 0 2\nout 2", "where": "where 1 0 1\nout 2", "sum": "sum 0 k\nsum 2 i\nout 3 2",
    "peak": "peak 0 k\npeak 0 i\nout 2 3", "dot": "dot 0 1 k\nout 2", "order": "order 0 ki\nout 2", "rename": "rename 0 i z\nout 2",
    "spread": "spread 1 z 2\nout 2", "cut": "cut 0 k 1 2\nout 2", "pad": "pad 0 k 2 1\nout 2", "join": "join 0 0 i\nout 2",
    "window": "window 0 k w 2 1\nout 2", "fold": "fold 0 k i 2 7\nout 2", "gather": "rename 1 k m\ngather 0 2 k\nneg 0\ngather 4 2 i\nout 3 5",
}


class Guarantee(unittest.TestCase):
    """Point 906: what runs is what the graph says."""

    def run_it(self, graph, schedule, machine, seed, runs=3):
        image = build(graph, schedule, machine)
        for turn in range(runs):
            random = Random(1000 * seed + turn)
            feeds = random_feeds(random.random(), graph)
            top = 2 ** (machine[0] - 1)
            filler = tuple(random.choice((-top, top - 1, 0, random.randint(-99, 99))) for _ in range(random.randint(1, 4)))
            self.assertEqual(run_image(image, feeds, filler, drawn_delays(random.random())), evaluate(graph, feeds))
        return image

    def test_each_kind(self):
        self.assertEqual(set(EACH), set(KINDS))
        for kind, lines in EACH.items():
            graph = read_graph("input i2k3 -4 4\ninput k3 -4 4\n" + lines + "\n")
            schedules = [plain_schedule(graph)] + [drawn_schedule(seed, graph) for seed in range(6)]
            for seed, schedule in enumerate(schedules):
                self.run_it(graph, schedule, (32, 200, 100, 1 + seed % 4, 1 + seed), seed)

    def test_drawn(self):
        kinds, names = set(), set()
        for seed in range(150):
            random = Random(seed)
            graph = random_graph(seed, random.randint(5, 16))
            schedule = drawn_schedule(seed, graph)
            machine = (random.choice((32, 64, 200)), random.randint(2000, 3000), 1000, random.randint(1, 4), random.randint(1, 16))
            try:
                image = self.run_it(graph, schedule, machine, seed)
            except TooWide:
                self.assertEqual(machine[0], 32)
                continue
            kinds.update(one[0] for one in image.graph[0])
            names.update(change[0] for change in schedule[2])
        self.assertEqual(kinds, set(KINDS))
        self.assertGreaterEqual(names, {"tile", "swap", "unroll", "reverse", "stage"})

    def test_large_tensors(self):
        nodes = (given("i16k16", -9, 9), given("k16j2", -9, 9), node("dot", (0, 1), "k"), const("", 3), node("mul", (2, 3)),
                 node("order", (4,), "ji"))
        graph = (nodes, (5,))
        self.assertEqual(check_graph(graph)[5][0], shape_of("j2i16"))
        self.run_it(graph, plain_schedule(graph), (32, 1000, 64, 1, 1), 5, runs=1)


if __name__ == "__main__":
    unittest.main()
