"""Point 804."""

import unittest
from random import Random

from making import is_tuples
from test_instructions import GOOD, loops, whole
from tensorcompiler.errors import FormError, MachineError, RangeError, TextError, TooLarge
from tensorcompiler.listing import read_code, write_code

MACHINE = (32, 100, 64, 2, 4)

LINES = (
    "set 1 5", "do add 1 2 2 3 0", "do clamp 1 1 2 2 -5 5", "load 1 2 3", "store 1 2 3", "mac 1 2 3 4 5 2",
    "vector mul 1 2 3 2", "loop 1 0 1 3", "skip 1 0", "in 0 1 2 3 4 5", "out 0 1 2 3 4 5", "wait 0")


class Texts(unittest.TestCase):
    def test_each_instruction(self):
        self.assertEqual(len(GOOD), len(LINES))
        for instruction, line in zip(GOOD, LINES):
            code = whole(instruction)
            text = line + "\n" + "end\n" * (len(code) - 1)
            self.assertEqual(write_code(MACHINE, code), text)
            result = read_code(MACHINE, text)
            self.assertEqual(result, code)
            self.assertTrue(is_tuples(result))

    def test_the_example(self):
        code = (("do", "clamp", 3, (2,), (-5, 5)),)
        self.assertEqual(write_code(MACHINE, code), "do clamp 3 1 2 2 -5 5\n")
        self.assertEqual(read_code(MACHINE, "do clamp 3 1 2 2 -5 5\n"), code)

    def test_each_kind(self):
        for kind, sources, info, words in (
                ("neg", (4,), (), "1 4 0"), ("shift", (4,), (30,), "1 4 1 30"), ("where", (4, 0, 31), (), "3 4 0 31 0"),
                ("max", (7, 7), (), "2 7 7 0")):
            code = (("do", kind, 9, sources, info),)
            self.assertEqual(write_code(MACHINE, code), f"do {kind} 9 {words}\n")
            self.assertEqual(read_code(MACHINE, f"do {kind} 9 {words}\n"), code)

    def test_the_empty_code(self):
        self.assertEqual(write_code(MACHINE, ()), "")
        self.assertEqual(read_code(MACHINE, ""), ())

    def test_drawn_code(self):
        for seed in range(50):
            random = Random(seed)
            code = []
            for _ in range(30):
                code += whole(random.choice(GOOD))
                code.append(("set", random.randint(0, 31), random.randint(-2 ** 31, 2 ** 31 - 1)))
            text = write_code(MACHINE, tuple(code))
            self.assertEqual(text.count("\n"), len(code))
            self.assertEqual(read_code(MACHINE, text), tuple(code))


class Errors(unittest.TestCase):
    def refuse(self, text, error=TextError):
        with self.assertRaises(error):
            read_code(MACHINE, text)

    def test_write_code_checks_the_code(self):
        for code, error in (((("odd",),), FormError), ((("wait", 2),), RangeError), (loops(17, ("wait", 0)), TooLarge)):
            with self.assertRaises(error):
                write_code(MACHINE, code)
        with self.assertRaises(MachineError):
            write_code((31, 100, 64, 2, 4), (("odd",),))

    def test_read_code_checks_the_machine_first(self):
        for text in ("", "odd\n", "wait 9\n"):
            with self.assertRaises(MachineError):
                read_code((32, 100, 64, 2, 17), text)

    def test_read_code_checks_the_code(self):
        self.refuse("wait 2\n", RangeError)
        self.refuse("set 32 0\n", RangeError)
        self.refuse("set -1 0\n", RangeError)
        self.refuse("end\n", FormError)
        self.refuse("loop 1 0 1 3\n", FormError)
        self.refuse("skip 1 1\n", FormError)
        self.refuse("loop 0 0 0 1\n" * 17 + "wait 0\n" + "end\n" * 17, TooLarge)
        # Any number of sources and fields, and any pointwise kind of a vector, is a text all the same.
        for line in ("do neg 1 0 0", "do neg 1 2 3 4 0", "do neg 1 1 2 1 3", "do neg 1 1 2 3 -1 -2 -3", "vector neg 1 2 3 2",
                     "vector where 1 2 3 2", "do clamp 1 1 2 0", "do add 1 1 -5 0"):
            self.refuse(line + "\n", FormError)
        # An error of the text comes first wherever it stands.
        self.refuse("end\nwait 2\nodd\n")

    def test_words_too_many_or_too_few(self):
        for line in LINES + ("end",):
            words = line.split(" ")
            self.refuse(line + " 1\n")
            self.refuse(" ".join(words[:-1]) + "\n")
            self.refuse(words[0] + " 1 " + " ".join(words[1:]) + "\n")

    def test_numbers_of_items(self):
        for line in ("do add 1 3 2 3 0", "do add 1 1 2 3 0", "do add 1 2 2 3", "do add 1 2 2 3 1", "do add 1 -1 0", "do add 1 0 -1",
                     "do neg 1 -0 0", "do neg 1", "do neg 1 0", "do neg 1 1", "do neg 1 99999999999999999999 1 0",
                     "do neg 1 1 2 " + "9" * 90, "do neg 1 x 2 0", "do neg 1 01 2 0"):
            self.refuse(line + "\n")

    def test_names_and_kinds(self):
        for line in ("", "odd", "Wait 0", "add 1", "0", "do odd 1 1 2 0", "do sum 1 1 2 0", "do  1 1 2 0", "do 1 1 1 2 0",
                     "vector odd 1 2 3 2", "vector gather 1 2 3 2", "vector 5 1 2 3 2", "set add 1", "wait add"):
            self.refuse(line + "\n")

    def test_spaces_and_line_feeds(self):
        for text in ("\n", "wait 0", "wait  0\n", " wait 0\n", "wait 0 \n", "wait 0\n\n", "\nwait 0\n", "wait 0\nwait 0", "wait\t0\n",
                     "wait 0\r\n", "wait 0\n ", "wait\n0\n", " \n", "end \n", "wait 0\n\nwait 0\n"):
            self.refuse(text)

    def test_numbers(self):
        for word in ("00", "01", "-0", "-01", "+1", "--1", "1-", "", "-", "0x1", "1.0", "1_0", "\u0661", "\u00b2", "1e1", "a"):
            self.refuse(f"set 1 {word}\n")
            self.refuse(f"do neg 1 1 {word} 0\n")
            self.refuse(f"do shift 1 1 2 1 {word}\n")
        for sign in ("", "-"):
            self.refuse(f"set 1 {sign}{'9' * 90}\n", RangeError)
            self.refuse(f"set 1 {sign}{'9' * 91}\n")
            self.refuse(f"set 1 {sign}1{'0' * 90}\n")
            self.refuse(f"do neg 1 1 {sign}{'9' * 90} 0\n", RangeError)
            self.refuse(f"do neg 1 1 {sign}{'9' * 91} 0\n")
            self.refuse(f"do shift 1 1 1 1 {sign}{'9' * 91}\n")


if __name__ == "__main__":
    unittest.main()
