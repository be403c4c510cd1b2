"""Points 206 and 207."""

import unittest

from making import const, given, is_tuples, node, random_graph, shape_of
from tensorcompiler.errors import AxisError, FormError, KindError, RangeError, RankError, TextError, TooLarge, TooWide
from tensorcompiler.kinds import KINDS
from tensorcompiler.notation import read_graph, write_graph

# A valid graph with one node of each further kind, and its text.
NODES = (
    given("i4k3", -5, 9), const("k3", 1, -2, 3), given("", 0, 0), const("", -7), given("m10a12", -10, 10),
    node("add", (0, 1)), node("sub", (1, 0)), node("mul", (0, 0)), node("max", (0, 1)), node("min", (1, 0)),
    node("less", (0, 1)), node("equal", (0, 2)), node("neg", (0,)), node("clamp", (0,), -3, 20),
    node("shift", (0,), 30), node("where", (2, 0, 1)), node("sum", (0,), "i"), node("peak", (0,), "k"),
    node("dot", (0, 1), "k"), node("order", (0,), "ki"), node("order", (2,), ""), node("rename", (0,), "i", "z"),
    node("spread", (0,), "z", 2), node("cut", (0,), "i", 0, 2), node("pad", (0,), "i", 1, 0),
    node("join", (0, 0), "i"), node("window", (0,), "i", "z", 2, 1), node("fold", (0,), "i", "k", 2, 16),
    node("gather", (0, 2), "i"),
)
GRAPH = (NODES, (28, 0, 28))
TEXT = """input i4k3 -5 9
const k3 1 -2 3
input . 0 0
const . -7
input m10a12 -10 10
add 0 1
sub 1 0
mul 0 0
max 0 1
min 1 0
less 0 1
equal 0 2
neg 0
clamp 0 -3 20
shift 0 30
where 2 0 1
sum 0 i
peak 0 k
dot 0 1 k
order 0 ki
order 2 .
rename 0 i z
spread 0 z 2
cut 0 i 0 2
pad 0 i 1 0
join 0 0 i
window 0 i z 2 1
fold 0 i k 2 16
gather 0 2 i
out 28 0 28
"""


class Texts(unittest.TestCase):
    def test_the_examples(self):
        text = "input i3k4 -5 9\nconst k4 1 2 3 -4\ndot 0 1 k\nout 2\n"
        graph = ((given("i3k4", -5, 9), const("k4", 1, 2, 3, -4), node("dot", (0, 1), "k")), (2,))
        self.assertEqual(write_graph(graph), text)
        self.assertEqual(read_graph(text), graph)
        self.assertEqual(
            read_graph("const . 5\nneg 0\nout 1\n"), ((('const', (), ((), (5,))), ('neg', (0,), ())), (1,)))

    def test_each_kind_there_and_back(self):
        self.assertEqual({one[0] for one in NODES}, set(KINDS))
        self.assertEqual(write_graph(GRAPH), TEXT)
        self.assertEqual(read_graph(TEXT), GRAPH)
        self.assertTrue(is_tuples(read_graph(TEXT)))

    def test_random_graphs_there_and_back(self):
        for seed in range(60):
            graph = random_graph(seed, 30)
            self.assertEqual(read_graph(write_graph(graph)), graph)

    def test_writing_raises_the_errors_of_the_graph(self):
        with self.assertRaises(FormError):
            write_graph(((given(""),), ()))
        with self.assertRaises(KindError):
            write_graph(((("odd", (), ()),), (0,)))


class Wrong(unittest.TestCase):
    def check(self, text, error=TextError):
        with self.subTest(text[:80]):
            with self.assertRaises(error) as caught:
                read_graph(text)
            self.assertIs(type(caught.exception), error)

    def line(self, line, error=TextError):
        """The error of a text with this line behind some inputs."""
        self.check(f"input i4k3 0 1\ninput k3 0 1\ninput . 0 1\n{line}\nout 0\n", error)

    def test_lines(self):
        for text in (
                "", "\n", "out", "out 0", "input . 0 1", "input . 0 1\n", "input . 0 1\nout 0", "input . 0 1\nout 0\n\n",
                "\ninput . 0 1\nout 0\n", "input . 0 1\n\nout 0\n", "input . 0 1\nout 0\nout 0\n",
                "out 0\ninput . 0 1\n", "input . 0 1\r\nout 0\r\n", "input . 0 1\nout 0\r\n", "input . 0 1\n out 0\n",
                "input . 0 1\nout 0 \n", "input . 0 1\nout  0\n", "input . 0 1\nout\t0\n", "input . 0 1\nout \n",
                "input . 0 1\nOut 0\n", "input . 0 1\noutput 0\n", "input . 0 1\nout .\n", "input . 0 1\nout 00\n",
                "input . 0 1\nout +0\n", "input . 0 1\nout -0\n", "input . 0 1\nout 0 a\n", "input . 0 1\nneg\nout 0\n",
                "input . 0 1\x0bout 0\n", "input . 0 1\u2028out 0\n", "input . 0 1\nout 0\nx", "out 0\n0"):
            self.check(text)

    def test_kinds(self):
        for line in ("nag 0", "Neg 0", "out 0", "", " neg 0", "neg 0 ", "neg  0", "neg\t0", "neg,0", "input", "const"):
            self.line(line)

    def test_a_word_too_many_or_too_few(self):
        for line in TEXT.split("\n")[:-2]:
            if not line.startswith("const"):
                self.line(line + " 0")
                self.line(line + " a")
            if not line.startswith("const"):
                self.line(line.rpartition(" ")[0])
            self.line(line + " ")
            self.line(" " + line)
            self.line(line.replace(" ", "  ", 1))

    def test_integers(self):
        for bad in ("", "-", "00", "01", "-01", "-0", "+1", "1.", "1.0", "0x1", "1_0", "a", "--1", "\u0661", "\u00b2", "."):
            self.line(f"neg {bad}")
            self.line(f"clamp 0 {bad} 9")
            self.line(f"clamp 0 0 {bad}")
            self.line(f"const . {bad}")
            self.line(f"const k2 1 {bad}")
            self.line(f"shift 0 {bad}")
            self.line(f"input . {bad} 9")
            self.check(f"input . 0 1\nout 0 {bad}\n")

    def test_integers_of_many_digits(self):
        for sign in ("", "-"):
            fits, too_long = sign + "9" * 70, sign + "9" * 71
            self.line(f"neg {fits}", FormError)
            self.line(f"neg {too_long}")
            self.line(f"const . {fits}", TooWide)
            self.line(f"const . {too_long}")
            self.line(f"clamp 0 -{'1' * 70} {fits}", RangeError)
            self.line(f"clamp 0 -{'1' * 70} {too_long}")
            self.line(f"pad 0 i 0 {fits}", RangeError)
            self.line(f"pad 0 i 0 {too_long}")
            self.check(f"input . 0 1\nout {fits}\n", FormError)
            self.check(f"input . 0 1\nout {too_long}\n")
        self.line(f"input i{'9' * 70} 0 1", RangeError)
        self.line(f"input i{'9' * 71} 0 1")
        self.check(f"const . {'1' * 5000}\nout 0\n")

    def test_shapes(self):
        for word in ("", "i", "3", "3i", "i3k", "ik3", "I3", "i03", "i00", "i-3", "i+3", "i3.", ".i3", "..", "i3,k4", "\u00e93",
                     "i\u0663", "i3\u0663", "i3 k4", "_3", "{3", "`3", "i1:", "i1/"):
            self.line(f"input {word} 0 1")
        self.line("const i03 1 2 3")
        # These are texts of shapes, but of shapes with errors.
        self.line("input i0 0 1", RangeError)
        self.line("input i17 0 1", RangeError)
        self.line("input i2i2 0 1", AxisError)
        self.line("input a1b1c1d1e1 0 1", RankError)
        self.line("input i16j16k2 0 1", TooLarge)
        self.line("const i0", RangeError)
        self.line("const i2 1", FormError)
        self.line("const i2", FormError)
        self.line("const .", FormError)
        self.line("const . 1 2", FormError)

    def test_letters(self):
        for word in ("", "i.", "..", "I", "k1", "k-i", "k i", "\u00e9"):
            self.line(f"order 0 {word}")
        for word in (".", "i", "ii", "abcdefgh", "zz"):
            self.line(f"order 0 {word}", AxisError)
        for bad in ("", ".", "ik", "I", "3", "{", "`", "\u00e9"):
            for line in (
                    f"sum 0 {bad}", f"peak 0 {bad}", f"dot 0 1 {bad}", f"rename 0 {bad} z", f"rename 0 i {bad}",
                    f"spread 0 {bad} 2", f"cut 0 {bad} 0 1", f"pad 0 {bad} 0 1", f"join 0 0 {bad}",
                    f"window 0 {bad} z 1 1", f"window 0 i {bad} 1 1", f"fold 0 {bad} k 1 9", f"fold 0 i {bad} 1 9",
                    f"gather 0 2 {bad}"):
                self.line(line)

    def test_errors_of_the_graph_come_after_those_of_the_text(self):
        self.check("out\n", FormError)
        self.check("out 0\n", FormError)
        self.check("input . 0 1\nout\n", FormError)
        self.check("input . 0 1\nout 1\n", FormError)
        self.check("input . 0 1\nout -1\n", FormError)
        self.check("input . 0 1\nneg -1\nout 0\n", FormError)
        self.check("input . 0 1\nneg 1\nout 0\n", FormError)
        self.check("input . 1 0\nout 0\n", RangeError)
        self.assertEqual(len(read_graph("input . 0 1\n" + "neg 0\n" * 399 + "out 0\n")[0]), 400)
        self.check("input . 0 1\n" + "neg 0\n" * 400 + "out 0\n", TooLarge)
        self.check("input . 1 0\nneg 0 0\nout 0\n")
        self.check("input . 0 1\n" + "neg 0\n" * 400 + "out x\n")


if __name__ == "__main__":
    unittest.main()
