"""Point 1101."""

import unittest
from random import Random

from making import const, given, is_tuples, node, random_feeds, random_graph
from tensorcompiler.errors import (
    AxisError, FormError, KindError, RangeError, TensorError, TooLarge, TooWide)
from tensorcompiler.gradients import gradient_graph
from tensorcompiler.graphs import check_graph, inputs_of
from tensorcompiler.meaning import evaluate
from tensorcompiler.notation import read_graph, write_graph
from tensorcompiler.updating import step_graph
from training import LINE, NETWORK, limit

SQUARE = read_graph("input . -9 9\nmul 0 0\nout 1\n")


def shift_of(g, rate):
    return (g + 2 ** (rate - 1)) // 2 ** rate


class Nodes(unittest.TestCase):
    def test_written_out(self):
        self.assertEqual(write_graph(step_graph(SQUARE, (0,), 2, -5, 7)), (
            "input . -9 9\nmul 0 0\nconst . 1\nmul 2 0\nmul 2 0\nadd 3 4\nshift 5 2\nsub 0 6\nclamp 7 -5 7\nout 8 1\n"))
        graph = read_graph("input k2 -9 9\ninput k2 -5 5\ninput . 0 3\ndot 0 1 k\nmul 3 2\nout 4\n")
        middle = "const . 1\nmul 5 2\nmul 5 3\nmul 6 1\nmul 6 0\n"
        begin = "input k2 -9 9\ninput k2 -5 5\ninput . 0 3\ndot 0 1 k\nmul 3 2\n" + middle
        self.assertEqual(write_graph(step_graph(graph, (0,), 1, -9, 9)), begin + "shift 8 1\nsub 0 10\nclamp 11 -9 9\nout 12 4\n")
        self.assertEqual(write_graph(step_graph(graph, (0, 2), 30, 0, 3)), (
            begin + "shift 8 30\nsub 0 10\nclamp 11 0 3\nshift 7 30\nsub 2 13\nclamp 14 0 3\nout 12 15 4\n"))
        self.assertEqual(write_graph(step_graph(graph, (0, 1, 2), 5, 1, 2)), (
            begin + "shift 8 5\nsub 0 10\nclamp 11 1 2\nshift 9 5\nsub 1 13\nclamp 14 1 2\nshift 7 5\nsub 2 16\nclamp 17 1 2\nout 12 15 18 4\n"))

    def test_inputs_that_the_loss_does_not_need(self):
        graph = read_graph("input i2 -9 9\ninput . -9 9\ninput k2 -3 3\nneg 1\nout 3\n")
        self.assertEqual(write_graph(step_graph(graph, (0, 1), 1, -9, 9)), (
            "input i2 -9 9\ninput . -9 9\ninput k2 -3 3\nneg 1\nconst . 1\nneg 4\nconst i2 0 0\nconst k2 0 0\n"
            "shift 6 1\nsub 0 8\nclamp 9 -9 9\nshift 5 1\nsub 1 11\nclamp 12 -9 9\nout 10 13 3\n"))

    def test_a_loss_that_is_an_input(self):
        self.assertEqual(write_graph(step_graph(read_graph("input . -9 9\nout 0\n"), (0,), 1, -9, 9)), (
            "input . -9 9\nconst . 1\nshift 1 1\nsub 0 2\nclamp 3 -9 9\nout 4 0\n"))
        self.assertEqual(write_graph(step_graph(read_graph("const . 4\ninput . -9 9\nout 0\n"), (0,), 1, -9, 9)), (
            "const . 4\ninput . -9 9\nconst . 1\nconst . 0\nshift 3 1\nsub 1 4\nclamp 5 -9 9\nout 6 0\n"))

    def test_against_the_gradient_graph(self):
        made = 0
        for seed in range(200):
            random = Random(seed)
            graph = random_graph(seed, 12)
            shapes = [shape for shape, _, _ in check_graph(graph)]
            small = [place for place, shape in enumerate(shapes) if shape == ()]
            if not small:
                continue
            graph = (graph[0], (random.choice(small),))
            places = inputs_of(graph)
            parameters = tuple(k for k in range(len(places)) if random.random() < 0.6) or (0,)
            rate = random.randint(1, 6)
            low = max(graph[0][places[k]][2][1] for k in parameters)
            high = min(graph[0][places[k]][2][2] for k in parameters)
            try:
                gradient = gradient_graph(graph, 1, 1)
            except TensorError as error:
                with self.assertRaises(type(error)):
                    step_graph(graph, parameters, rate, low, high)
                continue
            made += 1
            found = step_graph(graph, parameters, rate, low, high)
            self.assertTrue(is_tuples(found))
            self.assertEqual(inputs_of(found), places)
            nodes = list(gradient[0])
            nodes[len(graph[0])] = const("", 1)
            self.assertEqual(list(found[0][:len(nodes)]), nodes)
            self.assertEqual(len(found[0]), len(nodes) + 3 * len(parameters))
            feeds = random_feeds(seed, graph)
            slopes = evaluate(gradient, feeds + ((1,),))
            expected = [tuple(limit(p - shift_of(g, rate), low, high) for p, g in zip(feeds[k], slopes[k])) for k in parameters]
            self.assertEqual(evaluate(found, feeds), tuple(expected) + evaluate(graph, feeds))
        self.assertGreater(made, 60)


class Errors(unittest.TestCase):
    def refuse(self, error, graph=LINE, parameters=(1, 3), rate=3, low=-40, high=45):
        with self.assertRaises(error):
            step_graph(graph, parameters, rate, low, high)

    def test_errors_of_the_graph_come_first(self):
        bad = {"parameters": (), "rate": 0, "low": 1, "high": 0}
        self.refuse(FormError, graph=(LINE[0], ()), **bad)
        self.refuse(KindError, graph=((("odd", (), ()),), (0,)), **bad)
        self.refuse(AxisError, graph=((given("k2"), node("sum", (0,), "z")), (0, 0)), **bad)

    def test_what_is_not_trainable(self):
        bad = {"parameters": (), "rate": 0, "low": 1, "high": 0}
        for graph in (((const("", 5),), (0,)), (LINE[0], (8, 8)), (LINE[0], (8, 0)), (LINE[0], (7,)), (LINE[0], (1,)),
                      ((given("k1"),), (0,))):
            self.refuse(FormError, graph=graph, **bad)
        step_graph((LINE[0], (3,)), (3,), 1, 0, 1)

    def test_parameters(self):
        for parameters in ((), (3, 1), (1, 1), (-1,), (4,), (1, 4), (-1, 1), (8,), (0, 2, 2)):
            self.refuse(RangeError, parameters=parameters)
        step_graph(LINE, (0, 1, 2, 3), 3, -4, 4)

    def test_rates(self):
        for rate in (0, -1, 31, 2 ** 70):
            self.refuse(RangeError, rate=rate)
        for rate in (1, 30):
            step_graph(LINE, (1, 3), rate, -40, 45)

    def test_limits(self):
        self.refuse(RangeError, low=1, high=0)
        # The intervals of the parameters are -100 to 100 and -50 to 60.
        for low, high, good in ((-50, 60, True), (-51, 60, False), (-50, 61, False), (7, 7, True), (60, 60, True), (-100, 100, False),
                                (-2 ** 300, 0, False), (0, 2 ** 300, False)):
            if good:
                step_graph(LINE, (1, 3), 3, low, high)
            else:
                self.refuse(RangeError, low=low, high=high)
        # Only those of the parameters count.
        step_graph(LINE, (1,), 3, -100, 100)
        self.refuse(RangeError, parameters=(1,), low=-101, high=0)
        self.refuse(RangeError, parameters=(0, 1), low=-5, high=4)

    def test_errors_of_the_result_come_last(self):
        # Each clamp has three nodes of the gradient.
        many = (node("mul", (0, 0)),) + tuple(node("clamp", (place,), 0, 1) for place in range(1, 150))
        graph = ((given("", 0, 5),) + many, (150,))
        self.refuse(TooLarge, graph=graph, parameters=(0,), rate=1, low=0, high=5)
        for rate, low, high in ((31, 0, 5), (0, 0, 5), (1, 5, 4), (1, -1, 5), (1, 0, 6)):
            self.refuse(RangeError, graph=graph, parameters=(0,), rate=rate, low=low, high=high)
        self.refuse(RangeError, graph=graph, parameters=(1,), rate=1, low=0, high=5)

    def test_too_wide(self):
        # The parameter less its rounded gradient reaches beyond 2^200.
        graph = read_graph(f"input . {-2 ** 200} 5\nneg 0\nout 1\n")
        self.assertEqual(len(step_graph(graph, (0,), 1, 0, 5)[1]), 2)
        graph = read_graph(f"input . {-2 ** 200} 5\nclamp 0 0 1\nout 1\n")
        self.assertEqual(len(step_graph(graph, (0,), 2, 0, 5)[1]), 2)
        self.refuse(TooWide, graph=graph, parameters=(0,), rate=1, low=0, high=5)
        self.refuse(RangeError, graph=graph, parameters=(0,), rate=1, low=0, high=6)

    def test_arguments_stay(self):
        before = (tuple(LINE[0]), LINE[1])
        step_graph(LINE, (1, 3), 3, -40, 45)
        step_graph(NETWORK, (0, 2), 3, -40, 45)
        self.assertEqual(LINE, before)


if __name__ == "__main__":
    unittest.main()
