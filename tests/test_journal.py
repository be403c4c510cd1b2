"""Point 1103."""

import unittest
from random import Random

from making import is_tuples
from tensorcompiler.errors import JournalError
from tensorcompiler.journal import check_number, journal_line, read_line

SIGNS = [chr(code) for code in range(128) if chr(code) != "\n"]


def checked(text):
    """The text with the check number that it has."""
    return f"{text} check {sum((place + 1) * ord(sign) for place, sign in enumerate(text)) % 65521}"


class Numbers(unittest.TestCase):
    def test_check_number(self):
        self.assertEqual(check_number(""), 0)
        self.assertEqual(check_number("a"), 97)
        self.assertEqual(check_number("ab"), 97 + 2 * 98)
        self.assertEqual(check_number("step 0 ; 5 -2"), 4602)
        self.assertEqual(check_number("z" * 33), 122 * 33 * 34 // 2 % 65521)
        self.assertEqual(check_number(chr(65521)), 0)
        self.assertEqual(check_number("\n" + chr(0x10ffff)), (10 + 2 * 0x10ffff) % 65521)


class Writing(unittest.TestCase):
    def test_lines(self):
        self.assertEqual(journal_line(0, ((5, -2),)), "step 0 ; 5 -2 check 4602\n")
        for steps, weights, text in (
                (12, ((5, -2), (0,), (-10, 7, 3)), "step 12 ; 5 -2 ; 0 ; -10 7 3"), (3, ((1,),), "step 3 ; 1"),
                (10 ** 60, ((10 ** 69, -10 ** 69),), f"step {10 ** 60} ; {10 ** 69} -{10 ** 69}"), (7, (), "step 7")):
            self.assertEqual(journal_line(steps, weights), checked(text) + "\n")


    def test_numbers_of_any_size(self):
        for digits in (59, 60, 61, 119, 120, 121, 5000):
            for first, other in ((10 ** (digits - 1), "1" + "0" * (digits - 1)), (10 ** digits - 1, "9" * digits),
                                 (10 ** (digits - 1) + 7, "1" + "0" * (digits - 2) + "7")):
                self.assertEqual(journal_line(first, ((-first, first),)), checked(f"step {other} ; -{other} {other}") + "\n")


class Reading(unittest.TestCase):
    def refuse(self, line, sizes):
        with self.assertRaises(JournalError):
            read_line(line, sizes)

    def test_what_was_written(self):
        for seed in range(200):
            random = Random(seed)
            sizes = tuple(random.randint(1, 5) for _ in range(random.randint(1, 4)))
            most = 10 ** random.choice((1, 3, 70)) - 1
            weights = tuple(tuple(random.choice((0, most, -most, random.randint(-most, most))) for _ in range(size)) for size in sizes)
            steps = random.choice((0, 1, 99, 10 ** 70 - 1))
            line = journal_line(steps, weights)
            self.assertTrue(line.endswith("\n"))
            found = read_line(line[:-1], sizes)
            self.assertEqual(found, (steps, weights))
            self.assertTrue(is_tuples(found))
            for others in (sizes + (1,), sizes[1:], sizes[:-1] + (sizes[-1] + 1,)):
                self.refuse(line[:-1], others)
            if len(set(sizes)) > 1 and sizes != sizes[::-1]:
                self.refuse(line[:-1], sizes[::-1])
            self.refuse(line, sizes)

    def test_numbers_of_many_digits(self):
        nines = "9" * 70
        for number in (nines, "-" + nines):
            self.assertEqual(read_line(checked(f"step 1 ; {number}"), (1,)), (1, ((int(number),),)))
            self.refuse(checked(f"step 1 ; {number}9"), (1,))
            self.refuse(checked(f"step 1 ; {number * 100}"), (1,))
        self.assertEqual(read_line(checked(f"step {nines} ; 1"), (1,)), (int(nines), ((1,),)))
        self.refuse(checked(f"step {nines}0 ; 1"), (1,))
        self.refuse(checked("step -1 ; 1"), (1,))

    def test_lines_of_another_form(self):
        self.assertEqual(read_line(checked("step 3 ; 5 -2 ; 7"), (2, 1)), (3, ((5, -2), (7,))))
        for text in (
                "", "step", "step 3", "step 3 ;", "step 3 ; 5 -2", "step 3 ; 5 -2 ;", "step 3 ; 5 -2 ; 7 8", "step 3 ; 5 ; -2 7", "step 3 5 -2 7",
                "step 3 ; 5 -2 7", "step 3 5 -2 ; 7", "Step 3 ; 5 -2 ; 7", "steps 3 ; 5 -2 ; 7", "3 ; 5 -2 ; 7", "step 03 ; 5 -2 ; 7",
                "step +3 ; 5 -2 ; 7", "step 3 ; 5 -02 ; 7", "step 3 ; 5 -0 ; 7", "step 3 ; 5 +2 ; 7", "step 3 ; 5 -2 ; 7.0", "step 3 ; 5 -2 ; 0x7",
                "step 3 ; 5 -2 ; 1_0", "step 3  ; 5 -2 ; 7", "step 3 ; 5  -2 ; 7", " step 3 ; 5 -2 ; 7", "step 3 ; 5 -2 ; 7 ", "step\t3 ; 5 -2 ; 7",
                "step 3 ; 5 -2 : 7", "step 3 ; 5 -2 ;; 7", "step 3 ; 5 - ; 7", "step 3 ; 5 -2 ; x", "step 3 ; 5 -2 ; ", "step 3 ; ; -2 5 7",
                "step ; 3 5 -2 ; 7", "step 3 ; 5 -2 ; 7 ;", "step 3 ; 5 -2 ; 7 check 1", "step 3 ; 5 -2 ; \u0667", "step \u0663 ; 5 -2 ; 7"):
            self.refuse(checked(text), (2, 1))

    def test_lines_of_one_word(self):
        for line in ("", "step", "x", ";", "check", "\n", "4602"):
            for sizes in ((), (1,), (2, 1)):
                self.refuse(line, sizes)

    def test_check_numbers(self):
        line = checked("step 3 ; 5 -2 ; 7")
        text, number = line.rsplit(" ", 1)
        text = text.removesuffix(" check")
        n = int(number)
        for wrong in (n + 1, n - 1, n + 65521, -n, 0, 10 * n, f"0{n}", f"+{n}", f"{n} ", f" {n}", f"{n}.", "", "x", n + 10 ** 80):
            self.refuse(f"{text} check {wrong}", (2, 1))
        for wrong in (f"{text} Check {n}", f"{text} {n}", f"{text} check", f"{text}  check {n}", f"{text} check  {n}", f"{text} check {n} check {n}",
                      f"{text} check {n} ", f"{text} check\t{n}", f"{text} chec {n}", f"{text}"):
            self.refuse(wrong, (2, 1))

    def test_each_character_replaced(self):
        for weights in (((5, -2), (7,)), ((0,),), ((10 ** 69, -1, 0),)):
            line = journal_line(10, weights)[:-1]
            sizes = tuple(len(row) for row in weights)
            for place in range(len(line)):
                for sign in SIGNS:
                    if sign != line[place]:
                        self.refuse(line[:place] + sign + line[place + 1:], sizes)

    def test_each_character_left_out_or_doubled(self):
        line = journal_line(10, ((5, -2), (7,)))[:-1]
        for place in range(len(line)):
            for other in (line[:place] + line[place + 1:], line[:place] + line[place] + line[place:]):
                if other != line:
                    self.refuse(other, (2, 1))


if __name__ == "__main__":
    unittest.main()
