"""Point 907."""

import unittest
from random import Random

from codes import drawn_delays
from making import is_tuples, random_feeds, random_graph
from schedules import plain_schedule
from tensorcompiler.building import build
from tensorcompiler.errors import AxisError, FormError, KindError, MachineError, NoRoom, TensorError, TooWide
from tensorcompiler.images import run_image
from tensorcompiler.meaning import evaluate
from tensorcompiler.notation import read_graph
from tensorcompiler.scheduling import default_schedule, tuned_schedule

GRAPH = read_graph("input k3 -9 9\nconst k3 1 2 3\nadd 0 1\nneg 2\nsum 3 k\nneg 4\nspread 5 z 2\nout 6 0\n")
MACHINE = (32, 300, 64, 1, 1)


class Default(unittest.TestCase):
    def test_written_out(self):
        self.assertEqual(default_schedule(GRAPH), ((), (2, 3, 4, 5, 6), (), (0, 3, 6, 7, 8)))
        self.assertEqual(default_schedule(read_graph("input k2 0 1\nconst . 4\nout 1 0\n")), ((), (), (), ()))
        # Nodes that nothing needs are kept, too.
        self.assertEqual(default_schedule(read_graph("input k2 0 1\nneg 0\nneg 0\nout 0\n")), ((), (1, 2), (), (0, 2)))

    def test_drawn(self):
        for seed in range(60):
            graph = random_graph(seed, 20)
            schedule = default_schedule(graph)
            self.assertEqual(schedule, plain_schedule(graph))
            self.assertTrue(is_tuples(schedule))

    def test_errors(self):
        for nodes, outs, error in ((GRAPH[0], (), FormError), ((("odd", (), ()),), (0,), KindError),
                                   (GRAPH[0] + (("sum", (0,), ("z",)),), (0,), AxisError)):
            with self.assertRaises(error):
                default_schedule((nodes, outs))
            for machine in (MACHINE, (31, 300, 64, 1, 1)):
                with self.assertRaises(error):
                    tuned_schedule((nodes, outs), machine)

    def test_errors_of_machines(self):
        for machine in ((31, 300, 64, 1, 1), (257, 300, 64, 1, 1), (32, 0, 64, 1, 1), (32, 16385, 64, 1, 1), (32, 300, 15, 1, 1),
                        (32, 300, 4097, 1, 1), (32, 300, 64, 0, 1), (32, 300, 64, 5, 1), (32, 300, 64, 1, 0), (32, 300, 64, 1, 17)):
            with self.assertRaises(MachineError):
                tuned_schedule(GRAPH, machine)


class Tuned(unittest.TestCase):
    def compare(self, graph, machine, seed):
        """Where the default schedule can be built, so can the tuned one, with at most as many words."""
        schedule = tuned_schedule(graph, machine)
        self.assertTrue(is_tuples(schedule))
        try:
            plain = build(graph, default_schedule(graph), machine)
        except TensorError:
            return None
        image = build(graph, schedule, machine)
        self.assertLessEqual(image.words, plain.words)
        random = Random(seed)
        feeds = random_feeds(seed, graph)
        expected = evaluate(graph, feeds)
        for one in (plain, image):
            self.assertEqual(run_image(one, feeds, (random.randint(-9, 9), 3), drawn_delays(seed)), expected)
        return plain.words, image.words

    def test_words_are_used_again(self):
        plain, tuned = self.compare(GRAPH, MACHINE, 1)
        self.assertEqual(plain, 6 + 9 + 1)
        self.assertLess(tuned, plain)

    def test_just_enough_words_and_fewer(self):
        words = build(GRAPH, default_schedule(GRAPH), MACHINE).words
        self.assertIsNotNone(self.compare(GRAPH, (32, words, 20, 1, 1), 2))
        # With fewer words the default schedule cannot be built, and any schedule can be returned.
        for machine in ((32, words - 1, 20, 1, 1), (32, 1, 20, 1, 1), (32, words, 19, 1, 1)):
            with self.assertRaises(NoRoom):
                build(GRAPH, default_schedule(GRAPH), machine)
            self.assertEqual(len(tuned_schedule(GRAPH, machine)), 4)
            self.assertIsNone(self.compare(GRAPH, machine, 2))

    def test_what_is_too_wide(self):
        graph = read_graph(f"input . 0 {2 ** 31}\nneg 0\nout 1\n")
        with self.assertRaises(TooWide):
            build(graph, default_schedule(graph), MACHINE)
        self.assertEqual(len(tuned_schedule(graph, MACHINE)), 4)

    def test_nothing_computed(self):
        graph = read_graph("input k2 0 1\nconst . 4\nout 1 0\n")
        self.assertEqual(self.compare(graph, (32, 3, 20, 1, 1), 3), (3, 3))

    def test_drawn(self):
        less = 0
        for seed in range(120):
            graph = random_graph(seed, 12)
            found = self.compare(graph, (64, 3000, 30, 2, 2), seed)
            less += found[1] < found[0]
            self.assertIsNotNone(self.compare(graph, (64, found[0], 20, 1, 1), seed))
            self.compare(graph, (64, found[1], 20, 1, 1), seed)
        self.assertGreater(less, 80)

    def test_many_nodes(self):
        nodes = (("input", (), ((("k", 4),), -5, 5)),) + tuple(("neg", (place,), ()) for place in range(200))
        found = self.compare((nodes, (200,)), MACHINE[:1] + (900,) + MACHINE[2:], 4)
        self.assertEqual(found[0], 804)
        self.assertLess(found[1], 50)


if __name__ == "__main__":
    unittest.main()
