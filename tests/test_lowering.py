"""Points 607 and 608."""

import unittest
from random import Random

from making import is_tuples, node, given, const, random_feeds, random_graph
from programs import apply, form, guard, load, loop, number, pick, put
from tensorcompiler.agreeing import program_terms
from tensorcompiler.errors import FormError, KeptError, KindError, RangeError, TensorError, TooLarge
from tensorcompiler.graph_terms import graph_terms
from tensorcompiler.kinds import KINDS
from tensorcompiler.loops import check_program
from tensorcompiler.lowering import lower
from tensorcompiler.meaning import evaluate_all
from tensorcompiler.notation import read_graph
from tensorcompiler.running import run_program
from tensorcompiler.terms import Terms

REDUCING = ("sum", "peak", "dot", "fold")

I, J = form(0, (0, 1)), form(0, (1, 1))
# The positions in the shapes i2k3 and k3i2 for the variable 0 on the first axis of i2k3 and 1 on its second one.
IK, KI = form(0, (0, 3), (1, 1)), form(0, (0, 1), (1, 2))


def nest(sizes, *body):
    for variable in range(len(sizes) - 1, -1, -1):
        body = (loop(variable, sizes[variable], *body),)
    return body[0]


def text(inputs, *lines):
    """A graph whose nodes are inputs of these shapes and then the lines, the last one being the output."""
    rows = [f"input {word or '.'} -9 9" for word in inputs] + list(lines)
    return read_graph("\n".join(rows + [f"out {len(rows) - 1}"]) + "\n")


# For each kind a graph, the kept nodes, and the statements; the last node has the buffer 2 if there are two inputs.
STATEMENTS = [
    (kind, text(("i2k3", "k3"), f"{kind} 0 1"), (2,), (nest((2, 3), put(2, IK, apply(kind, load(0, IK), load(1, J)))),))
    for kind in ("add", "sub", "mul", "max", "min", "less", "equal")]
STATEMENTS += [
    ("add", text(("k3", "i2k3"), "add 0 1"), (2,), (nest((3, 2), put(2, form(0, (0, 2), (1, 1)), apply(
        "add", load(0, I), load(1, form(0, (0, 1), (1, 3)))))),)),
    ("add", text(("", ""), "add 0 1"), (2,), (put(2, 0, apply("add", load(0, 0), load(1, 0))),)),
    ("add", text(("i2", "k3"), "add 0 0"), (2,), (nest((2,), put(2, I, apply("add", load(0, I), load(0, I)))),)),
    ("neg", text(("i2", "k3"), "neg 1"), (2,), (nest((3,), put(2, I, apply("neg", load(1, I)))),)),
    ("clamp", text(("i2", "k3"), "clamp 1 -2 5"), (2,), (nest((3,), put(2, I, apply("clamp", load(1, I), info=(-2, 5)))),)),
    ("shift", text(("i2", "k3"), "shift 1 4"), (2,), (nest((3,), put(2, I, apply("shift", load(1, I), info=(4,)))),)),
    ("where", text(("i2k3", "k3"), "where 1 0 1"), (2,), (
        nest((3, 2), put(2, form(0, (0, 2), (1, 1)), apply(
            "where", load(1, I), load(0, form(0, (0, 1), (1, 3))), load(1, I)))),)),
    ("order", text(("i2k3", "k3"), "order 0 ki"), (2,), (
        nest((3, 2), put(2, form(0, (0, 2), (1, 1)), load(0, form(0, (0, 1), (1, 3))))),)),
    ("rename", text(("i2k3", "k3"), "rename 0 i z"), (2,), (nest((2, 3), put(2, IK, load(0, IK))),)),
    ("spread", text(("i2", "k3"), "spread 1 z 4"), (2,), (nest((3, 4), put(2, form(0, (0, 4), (1, 1)), load(1, I))),)),
    ("cut", text(("i2k3", "k3"), "cut 0 k 1 2"), (2,), (
        nest((2, 2), put(2, form(0, (0, 2), (1, 1)), load(0, form(1, (0, 3), (1, 1))))),)),
    ("pad", text(("i2k3", "k3"), "pad 0 k 2 1"), (2,), (
        nest((2, 6), put(2, form(0, (0, 6), (1, 1)), guard(
            form(-2, (1, 1)), guard(form(4, (1, -1)), load(0, form(-2, (0, 3), (1, 1))), number(0)), number(0)))),)),
    ("pad", text(("i2k3", "k3"), "pad 0 i 0 0"), (2,), (
        nest((2, 3), put(2, IK, guard(I, guard(form(1, (0, -1)), load(0, IK), number(0)), number(0)))),)),
    ("join", text(("i2k3", "i2k1"), "join 0 1 k"), (2,), (
        nest((2, 4), put(2, form(0, (0, 4), (1, 1)), guard(
            form(2, (1, -1)), load(0, IK), load(1, form(-3, (0, 1), (1, 1)))))),)),
    ("join", text(("i2k3", "i1k3"), "join 0 1 i"), (2,), (
        nest((3, 3), put(2, IK, guard(form(1, (0, -1)), load(0, IK), load(1, form(-6, (0, 3), (1, 1)))))),)),
    ("window", text(("i5k3", "k3"), "window 0 i w 3 2"), (2,), (
        nest((2, 3, 3), put(2, form(0, (0, 9), (1, 3), (2, 1)), load(0, form(0, (0, 6), (1, 3), (2, 1))))),)),
    ("gather", text(("i2k3", "m4"), "gather 0 1 k"), (2,), (
        nest((2, 4), put(2, form(0, (0, 4), (1, 1)), pick(0, form(0, (0, 3)), 1, 3, load(1, J)))),)),
    ("gather", text(("i2k3", "m4n2"), "gather 0 1 i"), (2,), (
        nest((4, 2, 3), put(2, form(0, (0, 6), (1, 3), (2, 1)), pick(0, form(0, (2, 1)), 3, 2, load(
            1, form(0, (0, 2), (1, 1)))))),)),
    ("gather", text(("k3", ""), "gather 0 1 k"), (2,), (put(2, 0, pick(0, 0, 1, 3, load(1, 0))),)),
    ("sum", text(("i2k3", "k3"), "sum 0 k"), (2,), (
        nest((2,), put(2, I, number(0)), loop(1, 3, put(2, I, apply("add", load(2, I), load(0, IK))))),)),
    ("sum", text(("i2k3", "k3"), "sum 0 i"), (2,), (
        nest((3,), put(2, I, number(0)), loop(1, 2, put(2, I, apply("add", load(2, I), load(0, form(0, (0, 1), (1, 3))))))),)),
    ("sum", text(("i2k3", "k3"), "sum 1 k"), (2,), (
        put(2, 0, number(0)), loop(0, 3, put(2, 0, apply("add", load(2, 0), load(1, I)))))),
    ("sum", text(("i2k3", "k1"), "sum 1 k"), (2,), (
        put(2, 0, number(0)), loop(0, 1, put(2, 0, apply("add", load(2, 0), load(1, I)))))),
    ("dot", text(("i2k3", "k3j4"), "dot 0 1 k"), (2,), (
        nest((2, 4), put(2, form(0, (0, 4), (1, 1)), number(0)), loop(2, 3, put(2, form(0, (0, 4), (1, 1)), apply(
            "add", load(2, form(0, (0, 4), (1, 1))),
            apply("mul", load(0, form(0, (0, 3), (2, 1))), load(1, form(0, (1, 1), (2, 4)))))))),)),
    ("dot", text(("k3", "k3"), "dot 1 0 k"), (2,), (
        put(2, 0, number(0)),
        loop(0, 3, put(2, 0, apply("add", load(2, 0), apply("mul", load(1, I), load(0, I))))))),
    ("peak", text(("i2k3", "k3"), "peak 0 k"), (2,), (
        nest((2,), put(2, I, load(0, form(0, (0, 3)))), loop(
            1, 2, put(2, I, apply("max", load(2, I), load(0, IK))), start=1)),)),
    ("peak", text(("i2k3", "k3"), "peak 1 k"), (2,), (
        put(2, 0, load(1, 0)), loop(0, 2, put(2, 0, apply("max", load(2, 0), load(1, I))), start=1))),
    ("peak", text(("i2k1", "k3"), "peak 0 k"), (2,), (nest((2,), put(2, I, load(0, I))),)),
    ("fold", text(("i2k3", "k3"), "fold 0 i k 2 6"), (2,), (
        nest((6,), put(2, I, number(0))),
        nest((2, 3), put(2, form(0, (0, 2), (1, 1)), apply("add", load(2, form(0, (0, 2), (1, 1))), load(0, IK)))))),
    ("fold", text(("i2k3", "k3"), "fold 0 k i 1 4"), (2,), (
        nest((4,), put(2, I, number(0))),
        nest((2, 3), put(2, form(0, (0, 1), (1, 1)), apply("add", load(2, form(0, (0, 1), (1, 1))), load(0, IK)))))),
    ("fold", text(("i2k3w2", "k3"), "fold 0 i w 1 3"), (2,), (
        nest((3, 3), put(2, IK, number(0))),
        nest((2, 3, 2), put(2, form(0, (0, 3), (1, 1), (2, 3)), apply(
            "add", load(2, form(0, (0, 3), (1, 1), (2, 3))), load(0, form(0, (0, 6), (1, 2), (2, 1)))))))),
]

# Graphs with nodes that are not kept, and the one statement for their last node.
EXPRESSIONS = (
    (text(("i2k3", "k3"), "neg 1", "mul 0 2", "add 3 2"), nest((2, 3), put(2, IK, apply(
        "add", apply("mul", load(0, IK), apply("neg", load(1, J))), apply("neg", load(1, J)))))),
    (text(("i2k3", "k3"), "rename 1 k i", "cut 2 i 1 2", "neg 3"), nest((2,), put(2, I, apply("neg", load(1, form(1, (0, 1))))))),
    # An axis with a letter that the argument had for another one: k of the result is not k of node 1.
    (text(("i2k3", "k3"), "rename 1 k z", "spread 2 k 4", "neg 3"),
     nest((3, 4), put(2, form(0, (0, 4), (1, 1)), apply("neg", load(1, I))))),
    (text(("i6", "k3"), "window 0 i w 3 2", "order 2 wi", "cut 3 i 1 1"),
     nest((3, 1), put(2, form(0, (0, 1), (1, 1)), load(0, form(2, (0, 1), (1, 2)))))),
    (text(("i2k3", "k3"), "pad 1 k 1 1", "pad 2 k 2 0", "neg 3"), nest((7,), put(2, I, apply("neg", guard(
        form(-2, (0, 1)), guard(form(6, (0, -1)), guard(form(-3, (0, 1)), guard(
            form(5, (0, -1)), load(1, form(-3, (0, 1))), number(0)), number(0)), number(0)), number(0)))))),
    (text(("i2k3", "k3"), "join 1 1 k", "join 2 1 k", "neg 3"), nest((9,), put(2, I, apply("neg", guard(
        form(5, (0, -1)), guard(form(2, (0, -1)), load(1, I), load(1, form(-3, (0, 1)))), load(1, form(-6, (0, 1)))))))),
    (text(("i2k3", "m2"), "neg 1", "gather 0 2 k", "neg 3"), nest((2, 2), put(2, form(0, (0, 2), (1, 1)), apply(
        "neg", pick(0, form(0, (0, 3)), 1, 3, apply("neg", load(1, J))))))),
    (text(("i2k3", "m2"), "gather 0 1 k", "order 2 mi", "cut 3 m 1 1"), nest((1, 2), put(2, form(0, (0, 2), (1, 1)), pick(
        0, form(0, (1, 3)), 1, 3, load(1, form(1, (0, 1))))))),
)


def needed_by_point_607(graph):
    nodes, outs = graph
    found = set(outs)
    for place, (kind, args, _) in enumerate(nodes):
        if kind in REDUCING:
            found.add(place)
        if kind == "gather":
            found.add(args[0])
    return {place for place in found if nodes[place][0] not in ("input", "const")}


def computed(graph):
    return tuple(place for place, (kind, _, _) in enumerate(graph[0]) if kind not in ("input", "const"))


def given_words(graph, feeds):
    feeds = list(feeds)
    return tuple(feeds.pop(0) if kind == "input" else info[1] for kind, _, info in graph[0] if kind in ("input", "const"))


class Statements(unittest.TestCase):
    def test_the_example(self):
        nodes = (("input", (), ((("k", 3),), -9, 9)), ("neg", (0,), ()), ("sum", (1,), ("k",)))
        self.assertEqual(lower((nodes, (2,)), (2,)), (
            ((('in', 3), ('main', 1)), (
                ('put', 1, (0, ()), ('number', 0)),
                ('loop', 0, 0, 1, 3, (('put', 1, (0, ()), ('apply', 'add', (
                    ('load', 1, (0, ())), ('apply', 'neg', (('load', 0, (0, ((0, 1),))),), ())), ())),)))), (0, None, 1)))

    def test_each_kind(self):
        for kind, graph, kept, body in STATEMENTS:
            program, places = lower(graph, kept)
            self.assertEqual(program[1], body, graph)
            self.assertEqual(places, (0, 1, 2))
            self.assertTrue(is_tuples((program, places)))
            self.assertEqual([role for role, _ in program[0]], ["in", "in", "main"])
            check_program(program)
        self.assertEqual({kind for kind, _, _, _ in STATEMENTS} | {"input", "const"}, set(KINDS))

    def test_nodes_that_are_evaluated_where_they_are_used(self):
        for graph, statement in EXPRESSIONS:
            last = len(graph[0]) - 1
            program, places = lower(graph, (last,))
            self.assertEqual(program[1], (statement,), graph)
            self.assertEqual(places, (0, 1) + (None,) * (last - 2) + (2,))
        program, _ = lower(text(("i2k3", "k3"), "sub 0 1", "sum 2 k"), (3,))
        self.assertEqual(program[1], (nest((2,), put(2, I, number(0)), loop(1, 3, put(2, I, apply(
            "add", load(2, I), apply("sub", load(0, IK), load(1, J)))))),))

    def test_in_reducing_kinds(self):
        neg = apply("neg", load(1, I))
        for line, body in (
                ("sum 2 k", (put(2, 0, number(0)), loop(0, 3, put(2, 0, apply("add", load(2, 0), neg))))),
                ("dot 2 2 k", (put(2, 0, number(0)), loop(0, 3, put(2, 0, apply("add", load(2, 0), apply("mul", neg, neg)))))),
                ("peak 2 k", (put(2, 0, apply("neg", load(1, 0))), loop(
                    0, 2, put(2, 0, apply("max", load(2, 0), neg)), start=1)))):
            graph = text(("i2k3", "k3"), "neg 1", line)
            self.assertEqual(lower(graph, (3,))[0][1], body)
        graph = text(("i2k3", "k3"), "neg 0", "fold 2 i k 1 4")
        self.assertEqual(lower(graph, (3,))[0][1][1], nest((2, 3), put(2, form(0, (0, 1), (1, 1)), apply(
            "add", load(2, form(0, (0, 1), (1, 1))), apply("neg", load(0, IK))))))

    def test_buffers_and_places(self):
        nodes = (
            given("i2"), node("neg", (0,)), const("k3", 1, 2, 3), node("sum", (2,), "k"), node("add", (1, 2)), given("i2m4"),
            node("neg", (4,)), node("sub", (6, 5)))
        program, places = lower((nodes, (6, 2, 6)), (1, 3, 6))
        self.assertEqual(program[0], (("in", 2), ("in", 3), ("in", 8), ("main", 2), ("main", 1), ("main", 6)))
        self.assertEqual(places, (0, 3, 1, 4, None, 2, 5, None))
        # The kept nodes are made in order, and read where they are kept.
        self.assertEqual(program[1], (
            nest((2,), put(3, I, apply("neg", load(0, I)))), put(4, 0, number(0)),
            loop(0, 3, put(4, 0, apply("add", load(4, 0), load(1, I)))),
            nest((2, 3), put(5, IK, apply("neg", apply("add", load(3, I), load(1, J)))))))

    def test_graphs_without_computed_nodes(self):
        graph = ((given("i2"), const("", 4)), (1, 0))
        self.assertEqual(lower(graph, ()), (((("in", 2), ("in", 1)), ()), (0, 1)))


class Kept(unittest.TestCase):
    GRAPH = text(("i2k3", "k3"), "neg 1", "neg 2", "sub 3 1")

    def refuse(self, graph, kept):
        with self.assertRaises(KeptError):
            lower(graph, kept)

    def test_what_can_be_kept(self):
        for kept in ((4,), (2, 4), (3, 4), (2, 3, 4)):
            lower(self.GRAPH, kept)
        for kept in ((0, 4), (1, 4), (-1, 4), (4, 5), (4, 2), (2, 2, 4), (4, 4), (3, 2, 4), (4, 100), (-3, 4), (2, 4, 3)):
            self.refuse(self.GRAPH, kept)
        consts = ((const("", 1), node("neg", (0,))), (1,))
        lower(consts, (1,))
        self.refuse(consts, (0, 1))

    def test_outputs_are_kept(self):
        for kept in ((), (2,), (3,), (2, 3)):
            self.refuse(self.GRAPH, kept)
        nodes = self.GRAPH[0]
        lower((nodes, (0, 1)), ())
        lower((nodes, (3, 3)), (3,))
        self.refuse((nodes, (0, 3)), ())
        self.refuse((nodes, (4, 2)), (4,))
        lower((nodes, (4, 2)), (2, 4))

    def test_reducing_nodes_are_kept(self):
        for line in ("sum 2 k", "peak 2 k", "dot 2 1 k", "fold 2 i k 1 4"):
            graph = text(("i2k3", "k3"), "neg 0", line, "neg 3")
            lower(graph, (3, 4))
            self.refuse(graph, (4,))
            self.refuse(graph, (2, 4))
            # Even if no output needs them.
            self.refuse((graph[0], (2,)), (2,))

    def test_what_is_picked_from_is_kept(self):
        graph = text(("i2k3", "m4"), "neg 0", "neg 1", "gather 2 3 k", "neg 4")
        lower(graph, (2, 5))
        for kept in ((5,), (3, 5), (3, 4, 5)):
            self.refuse(graph, kept)
        self.refuse((graph[0], (1,)), ())
        lower((graph[0], (1,)), (2,))
        lower(text(("i2k3", "m4"), "neg 1", "gather 0 2 k"), (3,))
        lower(text(("m4",), "const k3 1 2 3", "gather 1 0 k"), (2,))

    def test_errors_of_the_graph_come_first(self):
        for kept in ((), (0,), (5,)):
            with self.assertRaises(FormError):
                lower(((given(""),), ()), kept)
            with self.assertRaises(KindError):
                lower(((("odd", (), ()),), (0,)), kept)

    def test_kept_comes_ahead_of_sizes(self):
        nodes = (given(""),) + tuple(node("neg", (place,)) for place in range(12))
        self.refuse((nodes, (12,)), (0, 12))
        self.refuse((nodes, (12, 11)), (12,))


class Sizes(unittest.TestCase):
    def negations(self, many, *last, word=""):
        """A graph of that many negations in a row and then a last node, which is the output."""
        nodes = (given(word),) + tuple(node("neg", (place,)) for place in range(many)) + last
        return (nodes, (len(nodes) - 1,))

    def accept(self, many, *last, word=""):
        """That many negations can be read without being kept, and no more."""
        graph = self.negations(many, *last, word=word)
        check_program(lower(graph, graph[1])[0])
        moved = tuple((kind, tuple(arg + (arg > 0) for arg in args), info) for kind, args, info in last)
        graph = self.negations(many + 1, *moved, word=word)
        with self.assertRaises(TooLarge):
            lower(graph, graph[1])
        # It is not too much if one on the way is kept.
        lower(graph, (5,) + graph[1])

    def test_levels(self):
        self.accept(9)
        self.accept(8, node("add", (8, 0)))
        self.accept(8, node("where", (0, 0, 8)))
        self.accept(9, node("order", (9,), "k"), word="k3")
        self.accept(9, node("rename", (9,), "k", "z"), word="k3")
        self.accept(9, node("spread", (9,), "z", 2), word="k3")
        self.accept(9, node("cut", (9,), "k", 1, 1), word="k3")
        self.accept(9, node("window", (9,), "k", "z", 2, 1), word="k3")
        self.accept(7, node("pad", (7,), "k", 0, 0), word="k3")
        self.accept(8, node("join", (8, 0), "k"), word="k3")
        self.accept(8, node("join", (0, 8), "k"), word="k3")
        self.accept(8, node("sum", (8,), "k"), word="k3")
        self.accept(7, node("dot", (7, 0), "k"), word="k3")
        self.accept(7, node("dot", (0, 7), "k"), word="k3")
        self.accept(8, node("peak", (8,), "k"), word="k3")
        self.accept(9, node("peak", (9,), "k"), word="k1")
        self.accept(8, node("fold", (8,), "k", "m", 1, 4), word="k3m2")

    def test_levels_of_the_index_of_a_gather(self):
        for many in (8, 9):
            nodes = [given("k3"), given("m2")] + [node("neg", (place,)) for place in range(1, many + 1)]
            nodes.append(node("gather", (0, many + 1), "k"))
            graph = (tuple(nodes), (many + 2,))
            if many == 8:
                check_program(lower(graph, graph[1])[0])
            else:
                with self.assertRaises(TooLarge):
                    lower(graph, graph[1])

    def test_what_no_expression_reads_has_no_levels(self):
        nodes, _ = self.negations(50)
        lower((nodes, (0,)), ())
        lower((nodes, (9,)), (9,))
        with self.assertRaises(TooLarge):
            lower((nodes, (10,)), (10,))

    def test_expressions_that_would_grow_without_end(self):
        nodes = (given(""),) + tuple(node("add", (place, place)) for place in range(100))
        with self.assertRaises(TooLarge):
            lower((nodes, (100,)), (100,))

    def test_errors_of_the_program(self):
        # 1023 parts in each of the kept nodes.
        nodes = (given(""),) + tuple(node("add", (place, place)) for place in range(9))
        for many in (9, 10):
            rest = tuple(node("order", (9,), "") for _ in range(many))
            kept = tuple(range(10, 10 + many))
            if many == 9:
                lower((nodes + rest, kept), kept)
            else:
                with self.assertRaises(TooLarge):
                    lower((nodes + rest, kept), kept)

    def test_forms_that_are_out_of_range(self):
        # A window of the width 1 with the stride 16 leaves one index, which a pad before it moves by 15.
        nodes = [given("i1")]
        for letter in "abc":
            nodes.append(node("window", (len(nodes) - 1,), "i", letter, 1, 16))
            nodes.append(node("pad", (len(nodes) - 1,), "i", 15, 0))
        graph = (tuple(nodes), (6,))
        lower(graph, (4, 6))
        lower((graph[0], (4,)), (4,))
        with self.assertRaises(RangeError):
            lower(graph, (6,))
        # It comes ahead of too many parts.
        nodes += [node("add", (place, place)) for place in range(6, 9)]
        nodes += [node("order", (9,), "iabc") for _ in range(160)]
        kept = tuple(range(10, 170))
        with self.assertRaises(RangeError):
            lower((tuple(nodes), kept), kept)


class Drawn(unittest.TestCase):
    def test_the_words_that_are_left(self):
        made = 0
        for seed in range(150):
            random = Random(seed)
            graph = random_graph(seed, 22)
            must = needed_by_point_607(graph)
            share = random.choice((0, 0.3, 0.7, 1))
            kept = tuple(place for place in computed(graph) if place in must or random.random() < share)
            try:
                program, places = lower(graph, kept)
            except TensorError as error:
                self.assertIsInstance(error, (TooLarge, RangeError))
                continue
            made += 1
            self.assertEqual([place for place, buffer in enumerate(places) if buffer is None],
                             [place for place in computed(graph) if place not in kept])
            feeds = random_feeds(seed, graph)
            values = evaluate_all(graph, feeds)
            words = run_program(program, given_words(graph, feeds))
            table = Terms()
            terms = graph_terms(table, graph)
            own = tuple(terms[place] for place, one in enumerate(graph[0]) if one[0] in ("input", "const"))
            found = program_terms(table, program, own)
            for place in kept:
                self.assertEqual(words[places[place]], values[place])
                self.assertEqual(found[places[place]], terms[place])
        self.assertGreater(made, 100)


if __name__ == "__main__":
    unittest.main()
