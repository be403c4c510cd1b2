"""Points 808 and 809."""

import unittest
from random import Random

from codes import MACHINE, TOP, CodeDrawer, do, drawn_delays, loop, wait
from making import is_tuples
from tensorcompiler.auditing import audit_code
from tensorcompiler.device import run_code
from tensorcompiler.errors import (
    AuditError, FeedError, FormError, MachineError, MayOverflow, NeverSet, Outside, Racing, RangeError, TooLarge, Unsettled)
from tensorcompiler.terms import Terms

# The first four words of main memory bring variables, and the next two numbers; the others are not set.
BRING = (("in", 0, 0, 0, 0, 0, 6), wait())
SET_X = ("load", 1, 0, 0)


class Base(unittest.TestCase):
    def setUp(self):
        self.table = Terms()
        self.x = self.table.variable((0,), -9, 9)
        self.index = self.table.variable((1,), 0, 3)
        self.wide = self.table.variable((2,), 0, TOP - 1)
        self.low = self.table.variable((3,), -TOP, -1)
        self.main = (self.x, self.index, self.wide, self.low, self.table.number(2), self.table.number(-3)) + (None,) * 6

    def make(self, kind, *ids, info=()):
        return self.table.make(kind, ids, info)

    def audit(self, *code, main=None, machine=MACHINE):
        return audit_code(self.table, machine, code, self.main if main is None else main)

    def accept(self, *code, **named):
        found = self.audit(*code, **named)
        self.assertTrue(isinstance(found, tuple) and len(found) == len(self.main))
        return found

    def leaves(self, term, *code, **named):
        """The code is accepted, and slot 7 then holds the term."""
        found = self.accept(*code, ("store", 0, 15, 7), ("out", 1, 0, 11, 0, 15, 1), **named)
        self.assertEqual(found[11], term)

    def refuse(self, error, *code, **named):
        with self.assertRaises(error):
            self.audit(*code, **named)


class Results(Base):
    def test_nothing(self):
        self.assertEqual(self.accept(), self.main)
        self.assertEqual(audit_code(self.table, (32, 1, 16, 1, 1), (), (None,)), (None,))

    def test_each_instruction(self):
        x, index, two, three = self.x, self.index, self.main[4], self.main[5]
        number = self.table.number
        self.leaves(number(5), ("set", 7, 5))
        self.leaves(number(0))
        self.leaves(x, *BRING, ("load", 7, 0, 0))
        self.leaves(index, *BRING, ("set", 2, 3), ("load", 7, 2, -2))
        self.leaves(self.make("mul", x, index), *BRING, SET_X, ("load", 2, 0, 1), do("mul", 7, 1, 2))
        self.leaves(self.make("where", x, index, two), *BRING, SET_X, ("load", 2, 0, 1), ("load", 3, 0, 4),
                    do("where", 7, 1, 2, 3))
        self.leaves(self.make("clamp", x, info=(-2, 3)), *BRING, SET_X, do("clamp", 7, 1, info=(-2, 3)))
        self.leaves(x, *BRING, SET_X, ("store", 0, 9, 1), ("load", 7, 0, 9))
        products = self.make("add", self.make("mul", x, two), self.make("mul", index, three))
        self.leaves(self.make("add", products, number(4)), *BRING, ("set", 1, 4), ("set", 7, 4),
                    ("mac", 7, 0, 1, 1, 1, 2))
        found = self.accept(*BRING, ("set", 1, 4), ("set", 2, 8), ("vector", "mul", 2, 0, 1, 2), ("out", 0, 0, 9, 0, 8, 2))
        self.assertEqual(found[9:11], (self.make("mul", x, two), self.make("mul", index, three)))
        self.assertEqual(found[:6] + (found[8], found[11]), self.main[:6] + (None, None))

    def test_all_are_read_before_one_is_set(self):
        x, index, wide = self.main[:3]
        code = BRING + (("set", 1, 1), ("vector", "min", 1, 0, 0, 2), ("out", 0, 0, 8, 0, 0, 3))
        self.assertEqual(self.accept(*code)[8:11], (x, x, index))

    def test_loops_and_skips(self):
        number, x = self.table.number, self.x
        self.leaves(number(1 + 3 + 5), *loop(2, 1, 2, 3, do("add", 7, 7, 2)))
        self.leaves(number(2 * (4 + 3)), *loop(1, 0, 1, 2, *loop(2, 4, -1, 2, do("add", 7, 7, 2))))
        self.leaves(number(10 + 11), *loop(2, 10, 1, 2, do("add", 7, 7, 2), ("set", 2, -50)))
        self.leaves(self.make("mul", x, number(3)), *BRING, SET_X, *loop(2, 0, 1, 3, do("add", 7, 7, 1)))
        self.leaves(number(6), ("set", 1, -1), ("skip", 1, 1), ("set", 7, 5), ("skip", 7, 1), ("set", 7, 6))
        self.leaves(number(5), ("set", 7, 5), ("set", 1, -1), ("skip", 1, 4), *loop(2, 0, 1, 3, ("set", 7, 9), wait(1)))
        # A loop sets its slot to a number, whatever was in it.
        self.leaves(x, *BRING, SET_X, *loop(1, 0, 1, 1, ("load", 7, 1, 0)))

    def test_a_term_that_is_a_number_settles(self):
        # x - x is 0, and less of terms whose intervals do not meet is known.
        self.leaves(self.index, *BRING, SET_X, do("sub", 2, 1, 1), ("load", 7, 2, 1))
        self.leaves(self.index, *BRING, ("load", 1, 0, 2), ("load", 2, 0, 3), do("less", 3, 2, 1), ("load", 7, 3, 0))
        self.accept(*BRING, SET_X, do("sub", 2, 1, 1), ("store", 2, 0, 1), ("skip", 2, 0), ("mac", 3, 2, 1, 2, 1, 1),
                    ("vector", "min", 2, 2, 2, 1), ("in", 0, 2, 0, 2, 0, 1), wait(), ("out", 0, 2, 0, 2, 0, 1))

    def test_memory_between_transfers(self):
        found = self.accept(("in", 0, 0, 0, 0, 3, 2), wait(), ("out", 1, 0, 10, 0, 3, 2))
        self.assertEqual(found, self.main[:10] + self.main[:2])
        # A word that is set is set for what follows.
        found = self.accept(("in", 0, 0, 0, 0, 3, 2), wait(), ("out", 1, 0, 10, 0, 3, 2), wait(1), ("in", 0, 0, 10, 0, 8, 2),
                            wait(), ("out", 0, 0, 8, 0, 9, 1))
        self.assertEqual(found[8], self.index)

    def test_queues(self):
        # Transfers with no word in common can be in flight together.
        self.accept(("in", 0, 0, 0, 0, 0, 2), ("in", 0, 0, 2, 0, 2, 2), ("in", 1, 0, 4, 0, 4, 2))
        # They can have sources in common.
        self.accept(("in", 0, 0, 0, 0, 0, 2), ("in", 1, 0, 1, 0, 2, 2), ("in", 0, 0, 0, 0, 4, 2))
        self.accept(*BRING, ("out", 0, 0, 6, 0, 0, 2), ("out", 1, 0, 8, 0, 1, 2))
        # A word of the source can be read.
        self.accept(*BRING, ("out", 0, 0, 6, 0, 0, 2), ("load", 1, 0, 0), ("set", 1, 8), ("vector", "min", 1, 0, 0, 2),
                    ("mac", 2, 0, 0, 0, 0, 1))


class Unsettling(Base):
    def test_each_instruction(self):
        bad = BRING + (SET_X,)
        self.refuse(Unsettled, *bad, ("skip", 1, 0))
        self.refuse(Unsettled, *bad, ("skip", 1, 1), wait())
        # Even a term that is never negative is no number.
        self.refuse(Unsettled, *BRING, ("load", 1, 0, 1), ("skip", 1, 1), wait())
        self.refuse(Unsettled, *bad, ("store", 1, 5, 2))
        self.refuse(Unsettled, *bad, ("store", 1, 5, 1))
        self.refuse(Unsettled, *bad, ("mac", 2, 1, 0, 0, 0, 1))
        self.refuse(Unsettled, *bad, ("mac", 2, 0, 0, 1, 0, 1))
        for slots in ((1, 0, 0), (0, 1, 0), (0, 0, 1)):
            self.refuse(Unsettled, *bad, ("vector", "min") + slots + (1,))
        for name in ("in", "out"):
            self.refuse(Unsettled, *bad, (name, 0, 1, 0, 0, 0, 1))
            self.refuse(Unsettled, *bad, (name, 0, 0, 0, 1, 0, 1))
        # Slots that are no addresses can hold terms.
        self.accept(*bad, ("store", 0, 5, 1), ("mac", 1, 0, 0, 4, 0, 1), do("add", 2, 1, 1))

    def test_only_what_is_executed_counts(self):
        self.accept(*BRING, SET_X, ("set", 2, -1), ("skip", 2, 1), ("store", 1, 5, 2))


class OutsideOfMemory(Base):
    def test_near(self):
        for base in (-1, 16, 2 ** 31 - 1, -2 ** 31):
            self.refuse(Outside, ("set", 1, base), ("load", 2, 1, 0))
            self.refuse(Outside, ("set", 1, base), ("store", 1, 0, 2))
        self.refuse(Outside, ("set", 1, TOP - 1), ("store", 1, 16384, 2))
        self.accept(("store", 0, 15, 1), ("store", 0, 0, 1), ("load", 1, 0, 15), ("load", 1, 0, 0))

    def test_rows(self):
        fill = tuple(("store", 0, k, 0) for k in range(16))
        for base, step in ((14, 1), (-1, 1), (1, -1), (16, -1), (8, 4), (8, -5), (0, -16384), (-1, 0)):
            self.refuse(Outside, *fill, ("set", 1, base), ("mac", 2, 1, step, 0, 0, 3))
            self.refuse(Outside, *fill, ("set", 1, base), ("mac", 2, 0, 0, 1, step, 3))
        for base, step in ((13, 1), (0, 1), (2, -1), (15, -7), (1, 7), (15, 0)):
            self.accept(*fill, ("set", 1, base), ("mac", 2, 1, step, 1, step, 3))
        for base in (14, -1):
            for slots in ((1, 0, 0), (0, 1, 0), (0, 0, 1)):
                self.refuse(Outside, *fill, ("set", 1, base), ("vector", "min") + slots + (3,))
        self.accept(*fill, ("set", 1, 13), ("vector", "min", 1, 1, 1, 3))

    def test_transfers(self):
        full = (self.x,) * 12
        for name in ("in", "out"):
            fill = tuple(("store", 0, k, 0) for k in range(16))
            for there, here, count in ((-1, 0, 2), (11, 0, 2), (12, 0, 1), (0, -1, 2), (0, 15, 2), (0, 16, 1), (0, 0, 13)):
                self.refuse(Outside, *fill, (name, 0, 0, there, 0, here, count), main=full)
            for there, here, count in ((0, 0, 12), (11, 15, 1), (0, 4, 12)):
                self.accept(*fill, (name, 0, 0, there, 0, here, count), main=full)


class RacesTransfers(Base):
    def test_words_of_a_target_in_the_near_memory(self):
        begin = BRING + (("set", 1, 8), ("store", 0, 8, 0), ("store", 0, 9, 0), ("in", 1, 0, 0, 0, 8, 2))
        for last in (("load", 2, 0, 8), ("load", 2, 0, 9), ("store", 0, 9, 2), ("mac", 2, 1, 0, 0, 0, 1),
                     ("mac", 2, 0, 0, 1, 1, 2), ("vector", "min", 1, 0, 0, 1), ("vector", "min", 0, 1, 0, 1),
                     ("vector", "min", 0, 0, 1, 1), ("in", 0, 0, 0, 0, 7, 2), ("in", 1, 0, 0, 0, 9, 1), ("out", 0, 0, 8, 0, 9, 1),
                     ("out", 1, 0, 8, 0, 8, 1)):
            self.refuse(Racing, *begin, last)
            # The other queue does not settle it, its own does.
            self.refuse(Racing, *begin, wait(0), last)
            self.accept(*begin, wait(1), last)
        for last in (("load", 2, 0, 0), ("store", 0, 7, 2), ("store", 0, 10, 2), ("in", 0, 0, 0, 0, 10, 2), ("in", 1, 0, 0, 0, 6, 2),
                     ("mac", 2, 0, 1, 0, 1, 2)):
            self.accept(*begin, last)

    def test_words_of_a_source_in_the_near_memory(self):
        begin = BRING + (("set", 1, 2), ("set", 5, 9), ("store", 0, 9, 0), ("out", 1, 0, 8, 0, 2, 2))
        for last in (("store", 0, 2, 2), ("store", 0, 3, 0), ("vector", "min", 1, 0, 0, 1), ("in", 0, 0, 0, 0, 3, 1),
                     ("in", 1, 0, 0, 0, 0, 3)):
            self.refuse(Racing, *begin, last)
            self.refuse(Racing, *begin, wait(0), last)
            self.accept(*begin, wait(1), last)
        for last in (("load", 2, 0, 2), ("mac", 2, 1, 0, 5, 0, 1), ("vector", "min", 0, 1, 1, 2), ("out", 0, 0, 6, 0, 2, 2),
                     ("store", 0, 4, 2), ("in", 0, 0, 0, 0, 4, 2)):
            self.accept(*begin, last)

    def test_words_in_main_memory(self):
        begin = BRING + (("out", 1, 0, 8, 0, 2, 2),)
        for last in (("in", 0, 0, 8, 0, 10, 1), ("in", 1, 0, 9, 0, 10, 1), ("out", 0, 0, 9, 0, 0, 2), ("out", 1, 0, 7, 0, 0, 2)):
            self.refuse(Racing, *begin, last)
            self.refuse(Racing, *begin, wait(0), last)
            self.accept(*begin, wait(1), last)
        begin = BRING + (("in", 1, 0, 2, 0, 8, 2),)
        for last in (("out", 0, 0, 2, 0, 0, 1), ("out", 1, 0, 1, 0, 0, 2), ("out", 0, 0, 3, 0, 0, 2)):
            self.refuse(Racing, *begin, last)
            self.accept(*begin, wait(1), last)
        self.accept(*begin, ("out", 0, 0, 4, 0, 0, 2), ("in", 0, 0, 2, 0, 10, 2), ("out", 1, 0, 0, 0, 0, 2))

    def test_several_readers_of_a_word(self):
        begin = BRING + (("out", 0, 0, 6, 0, 2, 2), ("out", 1, 0, 8, 0, 2, 2))
        store = ("store", 0, 2, 0)
        self.refuse(Racing, *begin, wait(0), store)
        self.refuse(Racing, *begin, wait(1), store)
        self.accept(*begin, wait(1), wait(0), store)

    def test_only_issued_transfers_are_in_flight(self):
        # A wait ends the flight of the transfers before it, not of those behind it.
        code = BRING + (("in", 1, 0, 0, 0, 8, 1), wait(1), ("in", 1, 0, 0, 0, 9, 1), ("load", 2, 0, 8))
        self.accept(*code)
        self.refuse(Racing, *code, ("load", 2, 0, 9))
        self.refuse(Racing, *code, wait(1), ("in", 1, 0, 0, 0, 8, 1), ("load", 2, 0, 8))
        self.refuse(Racing, *BRING, *(("out", 1, 0, 8, 0, 0, 1), wait(1)) * 2, ("out", 1, 0, 8, 0, 0, 1), ("store", 0, 0, 1))
        # Transfers are in flight until the end of the code without harm.
        self.accept(*BRING, ("in", 1, 0, 0, 0, 8, 1), ("out", 0, 0, 8, 0, 0, 1))

    def test_a_delay_of_nought_does_not_help(self):
        self.refuse(Racing, ("in", 0, 0, 0, 0, 0, 1), *loop(1, 0, 1, 9, ("set", 2, 1)), ("load", 1, 0, 0))


class ReadsUnset(Base):
    def test_each_instruction(self):
        self.refuse(NeverSet, ("load", 1, 0, 0))
        self.refuse(NeverSet, *BRING, ("load", 1, 0, 6))
        self.refuse(NeverSet, *BRING, ("set", 1, 5), ("mac", 2, 1, 1, 0, 1, 2))
        self.refuse(NeverSet, *BRING, ("set", 1, 5), ("mac", 2, 0, 1, 1, 1, 2))
        self.refuse(NeverSet, *BRING, ("set", 1, 5), ("vector", "min", 0, 1, 0, 2))
        self.refuse(NeverSet, *BRING, ("set", 1, 5), ("vector", "min", 0, 0, 1, 2))
        self.refuse(NeverSet, ("in", 0, 0, 6, 0, 0, 1))
        self.refuse(NeverSet, ("in", 0, 0, 0, 0, 0, 7))
        self.refuse(NeverSet, *BRING, ("out", 0, 0, 6, 0, 4, 3))
        self.refuse(NeverSet, ("out", 0, 0, 0, 0, 0, 1))
        # What is set need not have been set.
        self.accept(*BRING, ("set", 1, 5), ("vector", "min", 1, 0, 0, 3), ("load", 1, 0, 7), ("out", 0, 0, 6, 0, 0, 6))


class Overflows(Base):
    def test_do_at_the_ends(self):
        wide, low, one = ("load", 1, 0, 2), ("load", 2, 0, 3), ("set", 3, 1)
        self.leaves(self.wide, *BRING, wide, do("add", 7, 1, 0))
        self.refuse(MayOverflow, *BRING, wide, one, do("add", 7, 1, 3))
        self.accept(*BRING, wide, one, do("sub", 7, 1, 3))
        self.refuse(MayOverflow, *BRING, low, one, do("sub", 7, 2, 3))
        self.accept(*BRING, low, one, do("add", 7, 2, 3))
        self.accept(*BRING, wide, do("neg", 7, 1))
        self.refuse(MayOverflow, *BRING, low, do("neg", 7, 2))
        self.refuse(MayOverflow, *BRING, wide, do("add", 7, 1, 1))
        # What cannot overflow is known from the normal form: (wide - 1) + 1.
        self.leaves(self.wide, *BRING, wide, one, do("sub", 7, 1, 3), do("add", 7, 7, 3))
        self.accept(*BRING, wide, low, do("add", 7, 1, 2))
        self.refuse(MayOverflow, *BRING, wide, low, do("mul", 7, 1, 2))

    def test_mac_at_the_ends(self):
        one = ("store", 0, 8, 3)
        begin = BRING + (("set", 3, 1), one, ("set", 1, 2), ("set", 2, 8))
        self.leaves(self.wide, *begin, ("mac", 7, 1, 0, 2, 0, 1))
        self.refuse(MayOverflow, *begin, ("set", 7, 1), ("mac", 7, 1, 0, 2, 0, 1))
        self.accept(*begin, ("set", 7, -1), ("mac", 7, 1, 0, 2, 0, 1))
        self.refuse(MayOverflow, *begin, ("set", 1, 3), ("set", 7, -1), ("mac", 7, 1, 0, 2, 0, 1))
        self.accept(*begin, ("set", 1, 3), ("set", 7, 1), ("mac", 7, 1, 0, 2, 0, 1))

    def test_sums_in_mac_need_not_fit(self):
        n = 2 ** 30
        begin = BRING + (("set", 3, n), ("store", 0, 8, 3), ("set", 3, -n), ("store", 0, 9, 3), ("set", 1, 8))
        # n x - n x is 0.
        self.leaves(self.table.number(0), *begin, ("mac", 7, 0, 0, 1, 1, 2))
        self.refuse(MayOverflow, *begin, ("mac", 7, 0, 0, 1, 1, 1))

    def test_vector(self):
        begin = BRING + (("set", 3, 1), ("store", 0, 8, 3), ("store", 0, 9, 0), ("store", 0, 10, 0), ("set", 1, 1), ("set", 2, 8))
        # The words of one row are the index, wide and low, those of the other one 1, 0 and 0.
        self.accept(*begin, ("vector", "add", 2, 1, 2, 3))
        self.accept(*begin, ("vector", "sub", 2, 1, 2, 3))
        self.refuse(MayOverflow, *begin, ("vector", "sub", 2, 2, 1, 3))
        self.accept(*begin, ("vector", "sub", 2, 2, 1, 2))
        self.refuse(MayOverflow, *begin, ("set", 2, 7), ("store", 0, 7, 3), ("vector", "add", 0, 1, 2, 2))
        self.accept(*begin, ("set", 2, 7), ("store", 0, 7, 3), ("vector", "add", 0, 1, 2, 1))

    def test_wider_machines(self):
        machine = (33, 12, 16, 2, 3)
        self.accept(*BRING, ("load", 1, 0, 2), do("add", 7, 1, 1), machine=machine)
        self.refuse(MayOverflow, *BRING, ("load", 1, 0, 2), do("add", 7, 1, 1), do("add", 7, 7, 7), machine=machine)


class Order(Base):
    """Of the errors that apply to an instruction, the first of the list decides, over all of its words."""

    def test_unsettled_first(self):
        self.refuse(Unsettled, *BRING, SET_X, ("store", 1, 16384, 1))
        self.refuse(Unsettled, *BRING, SET_X, ("set", 2, 99), ("mac", 3, 2, 1, 1, 1, 1))
        self.refuse(Unsettled, *BRING, SET_X, ("set", 2, 99), ("vector", "min", 2, 2, 1, 1))
        self.refuse(Unsettled, *BRING, SET_X, ("in", 0, 0, 99, 1, 0, 1))
        self.refuse(Unsettled, *BRING, SET_X, ("out", 0, 1, 0, 0, 99, 1))
        self.refuse(Unsettled, *BRING, SET_X, ("in", 0, 0, 6, 1, 0, 1))

    def test_outside_ahead_of_racing_and_never_set(self):
        flying = BRING + (("in", 1, 0, 0, 0, 14, 2), ("set", 1, 14), ("set", 2, 9))
        self.refuse(Outside, *flying, ("mac", 3, 1, 1, 1, 1, 3))
        self.refuse(Outside, *flying, ("mac", 3, 2, 1, 1, 1, 3))
        self.refuse(Outside, *flying, ("vector", "min", 1, 2, 0, 3))
        self.refuse(Outside, *flying, ("in", 0, 0, 7, 0, 14, 3))
        self.refuse(Outside, *flying, ("in", 0, 0, 11, 0, 14, 2))
        self.refuse(Outside, *flying, ("out", 0, 0, 11, 0, 14, 2))

    def test_racing_ahead_of_never_set(self):
        flying = BRING + (("in", 1, 0, 0, 0, 14, 2), ("set", 1, 14), ("set", 2, 9))
        # The words at 9 and behind are not set.
        self.refuse(Racing, *flying, ("mac", 3, 2, 1, 1, 1, 2))
        self.refuse(Racing, *flying, ("mac", 3, 1, 1, 2, 1, 2))
        self.refuse(Racing, *flying, ("vector", "min", 1, 2, 0, 2))
        self.refuse(Racing, *flying, ("vector", "min", 0, 2, 1, 2))
        self.refuse(Racing, *flying, ("out", 0, 0, 0, 0, 13, 2))
        self.refuse(Racing, *flying, ("in", 0, 0, 8, 0, 14, 1))
        self.refuse(NeverSet, *flying, ("mac", 3, 2, 1, 0, 1, 2))

    def test_never_set_ahead_of_may_overflow(self):
        code = BRING + (("set", 1, 2), ("set", 2, 6), ("set", 3, TOP - 1))
        self.refuse(NeverSet, *code, ("mac", 3, 1, 3, 1, 4, 2))
        self.refuse(MayOverflow, *code, ("mac", 3, 1, 3, 1, 0, 2))
        self.refuse(NeverSet, *code, ("set", 1, 4), ("set", 2, 2), ("vector", "mul", 0, 1, 2, 3))
        self.refuse(MayOverflow, *code, ("set", 1, 2), ("set", 2, 2), ("vector", "mul", 0, 1, 2, 3))

    def test_the_first_instruction_decides(self):
        self.refuse(NeverSet, ("load", 1, 0, 0), ("load", 1, 0, 16))
        self.refuse(Outside, ("load", 1, 0, 16), ("load", 1, 0, 0))

    def test_errors_before_the_run(self):
        bad_main = self.main[1:]
        too_wide = (self.table.variable((9,), 0, TOP),) + self.main[1:]
        outside = ("load", 1, 0, 16)
        self.refuse(MachineError, (), machine=(31, 12, 16, 2, 3), main=bad_main)
        self.refuse(FormError, (), ("wait", 9), main=bad_main)
        self.refuse(RangeError, ("wait", 9), main=bad_main)
        self.refuse(TooLarge, *loop(0, 0, 0, 1000, *loop(1, 0, 0, 1000, *loop(2, 0, 0, 1000, wait()))), main=bad_main)
        self.refuse(FeedError, outside, main=bad_main)
        self.refuse(FeedError, outside, main=self.main + (None,))
        self.refuse(FeedError, main=())
        self.refuse(FeedError, outside, main=too_wide)
        self.refuse(FeedError, main=self.main[:-1] + (self.table.variable((8,), -TOP - 1, 0),))
        self.refuse(FeedError, main=self.main[:-1] + (self.table.number(TOP),))
        self.accept(main=self.main[:-1] + (self.table.variable((7,), -TOP, TOP - 1),))
        self.refuse(Outside, outside)

    def test_all_stand_under_audit_error(self):
        for error in (Unsettled, Outside, Racing, NeverSet, MayOverflow):
            self.assertEqual(error.__bases__, (AuditError,))


class ChosenWords(Base):
    """Loads whose address is a term."""

    def index_slot(self, factor=1, start=0):
        """Code that leaves start plus factor times the index, which is from 0 to 3, in slot 1."""
        return BRING + (("load", 1, 0, 1), ("set", 2, factor), do("mul", 1, 1, 2), ("set", 2, start), do("add", 1, 1, 2))

    def test_rows(self):
        words = self.main[:6]
        self.leaves(self.table.pick(words[:4], self.index), *self.index_slot(), ("load", 7, 1, 0))
        self.leaves(self.table.pick(words[2:6], self.index), *self.index_slot(), ("load", 7, 1, 2))
        self.leaves(self.table.pick(words[2:6], self.index), *self.index_slot(start=-50), ("load", 7, 1, 52))
        self.leaves(self.table.pick(words[3::-1], self.index), *self.index_slot(-1), ("load", 7, 1, 3))
        self.leaves(self.table.pick(words[5:1:-1], self.index), *self.index_slot(-1, 1), ("load", 7, 1, 4))
        # The same slot.
        self.leaves(self.table.pick(words[:4], self.index), *BRING, ("load", 7, 0, 1), ("load", 7, 7, 0))

    def test_ends(self):
        fill = tuple(("store", 0, k, 0) for k in range(6, 16))
        for offset in (-1, 13, 20, -20, 16384, -16384):
            self.refuse(Outside, *self.index_slot(), *fill, ("load", 7, 1, offset))
        for offset in (0, 12):
            self.accept(*self.index_slot(), *fill, ("load", 7, 1, offset))
        for offset in (2, 16):
            self.refuse(Outside, *self.index_slot(-1), *fill, ("load", 7, 1, offset))
        for offset in (3, 15):
            self.accept(*self.index_slot(-1), *fill, ("load", 7, 1, offset))
        for offset, error in ((0, None), (1, Outside), (-1, Outside)):
            code = self.index_slot(5) + fill + (("load", 7, 1, offset),)
            self.accept(*code) if error is None else self.refuse(error, *code)

    def test_long_rows_are_outside_at_once(self):
        self.refuse(Outside, *BRING, ("load", 1, 0, 2), ("load", 7, 1, 0))
        self.refuse(Outside, *BRING, ("load", 1, 0, 3), ("load", 7, 1, 0))

    def test_steps_leave_words_out(self):
        # 0, 4, 8 and 12 are read; 6 is not set, and 7 is in a target.
        fill = tuple(("store", 0, k, 0) for k in (8, 12))
        begin = self.index_slot(4) + fill
        self.accept(*begin, ("load", 7, 1, 0))
        self.accept(*begin, ("in", 1, 0, 0, 0, 5, 3), ("load", 7, 1, 0))
        self.refuse(Racing, *begin, ("in", 1, 0, 0, 0, 5, 4), ("load", 7, 1, 0))
        self.accept(*begin, ("in", 1, 0, 0, 0, 5, 4), wait(1), ("load", 7, 1, 0))
        self.accept(*begin, ("out", 1, 0, 6, 0, 0, 1), ("load", 7, 1, 0))
        self.refuse(NeverSet, *begin, ("load", 7, 1, 1))
        words = (self.x, self.main[4], self.table.number(0), self.table.number(0))
        self.leaves(self.table.pick(words, self.index), *begin, ("load", 7, 1, 0))

    def test_order_of_errors(self):
        # 13 in a target, 14 and 15 not set, 16 outside.
        flying = (("in", 1, 0, 0, 0, 12, 1),)
        self.refuse(Outside, *self.index_slot(), *flying, ("load", 7, 1, 13))
        self.refuse(Racing, *self.index_slot(), *flying, ("load", 7, 1, 12))
        self.refuse(NeverSet, *self.index_slot(), *flying, wait(1), ("load", 7, 1, 12))
        self.refuse(NeverSet, *self.index_slot(), ("load", 7, 1, 3))

    def test_words_that_are_all_the_same(self):
        number = self.table.number(5)
        fill = (("set", 3, 5),) + tuple(("store", 0, k, 3) for k in range(8, 12))
        self.leaves(number, *self.index_slot(), *fill, ("load", 7, 1, 8))

    def test_a_sum_of_terms(self):
        # 2 index + 4 x + 36 goes through even numbers; with the index and x the interval is from 0 to 78.
        machine = (32, 12, 100, 2, 3)
        fill = (("set", 3, 5),) + tuple(("store", 0, k, 3 if k % 4 else 0) for k in range(6, 85, 2))
        code = BRING + (("load", 1, 0, 1), do("add", 1, 1, 1), ("load", 2, 0, 0), ("set", 4, 4), do("mul", 2, 2, 4),
                        do("add", 1, 1, 2)) + fill
        index = self.make("add", self.make("add", self.index, self.make("mul", self.x, self.table.number(2))), self.table.number(18))
        found = audit_code(self.table, machine, code + (("load", 7, 1, 42), ("store", 0, 0, 7), ("out", 0, 0, 9, 0, 0, 1)), self.main)
        five, zero = self.table.number(5), self.table.number(0)
        words = tuple(five if (6 + 2 * k) % 4 else zero for k in range(40))
        self.assertEqual(found[9], self.table.pick(words, index))
        # Odd words are not read.
        with self.assertRaises(NeverSet):
            audit_code(self.table, machine, code + (("load", 7, 1, 43),), self.main)


class Drawn(unittest.TestCase):
    """Point 809: what is accepted runs for all values, fillings and delays."""

    def check(self, seed):
        random = Random(seed)
        machine = random.choice((MACHINE, (32, 6, 18, 4, 16), (32, 6, 18, 4, 1), (40, 20, 16, 1, 2)))
        table = Terms()
        main = []
        for k in range(machine[1]):
            low = random.choice((-9, -1, 0, 3))
            main.append(random.choice((None, table.number(k), table.variable((k,), low, low + random.randint(0, 4)))))
        begin = [("in", 0, 0, k, 0, k, 1) for k, term in enumerate(main) if term is not None] + [("wait", 0)]
        begin += [("store", 0, k, 0) for k in range(machine[2]) if random.random() < 0.7 and not (k < len(main) and main[k])]
        drawer = CodeDrawer(seed, machine, 0.999)
        code = tuple(begin) + tuple(self.with_chosen_words(random, drawer.block(random.randint(0, 7), 2), machine))
        try:
            found = audit_code(table, machine, code, tuple(main))
        except AuditError:
            return False
        self.assertTrue(is_tuples(tuple(-1 if term is None else term for term in found)))
        for _ in range(3):
            values = {}
            for k, term in enumerate(main):
                if term is not None:
                    values[(k,)] = random.choice(table.span(term))
            words = [random.randint(-99, 99) if term is None else table.value(term, values) for term in main]
            near = tuple(random.randint(-99, 99) for _ in range(machine[2]))
            result = run_code(machine, code, tuple(words), near, drawn_delays(random.random()))
            for term, word in zip(found, result):
                if term is not None:
                    self.assertEqual(table.value(term, values), word)
        return True

    def with_chosen_words(self, random, code, machine):
        """The code and, in front of it, loads with terms as addresses."""
        found = []
        for _ in range(random.randint(0, 2)):
            found += [("load", 3, 0, random.randint(0, 5)), ("do", "clamp", 3, (3,), (0, random.randint(0, 3))),
                      ("set", 4, random.choice((1, 2, -1))), ("do", "mul", 3, (3, 4), ()),
                      ("load", random.randint(3, 7), 3, random.randint(3, machine[2] - 8)), ("store", 0, random.randint(0, 5), 3)]
        return found + code

    def test_drawn_code(self):
        accepted = [seed for seed in range(700) if self.check(seed)]
        self.assertGreater(len(accepted), 150)
        self.assertLess(len(accepted), 600)


if __name__ == "__main__":
    unittest.main()
