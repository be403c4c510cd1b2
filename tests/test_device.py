"""Points 802, 805, 806 and 807."""

import unittest
from random import Random

from codes import MACHINE, TOP, ZERO, CodeDrawer, PlainDevice, do, drawn_delays, drawn_memories, loop, wait
from making import is_tuples
from tensorcompiler.device import Device, run_code
from tensorcompiler.errors import FeedError, FormError, MachineError, RangeError, TooLarge, Trap
from tensorcompiler.instructions import check_code

MAIN = tuple(range(100, 112))
NEAR = tuple(range(200, 216))


def device(*code, main=MAIN, near=NEAR, delays=(), machine=MACHINE):
    return Device(machine, code, main, near, delays)


def finished(*code, **named):
    """The device after all steps."""
    found = device(*code, **named)
    while found.step():
        pass
    return found


def state(found, machine=MACHINE):
    return (found.at, found.stopped, [found.slot(k) for k in range(32)], [found.main_word(k) for k in range(machine[1])],
            [found.near_word(k) for k in range(machine[2])], [found.pending(q) for q in range(machine[3])])


class Base(unittest.TestCase):
    def slots(self, expected, *code, **named):
        """After the code the slots are these and 0 otherwise."""
        found = finished(*code, **named)
        self.assertFalse(found.stopped)
        self.assertEqual(found.at, len(code))
        self.assertEqual({k: found.slot(k) for k in range(32) if found.slot(k)}, expected)

    def words(self, expected, *code, **named):
        """After the code the near words with these addresses are these, and the others are as before."""
        found = finished(*code, **named)
        self.assertFalse(found.stopped)
        before = named.get("near", NEAR)
        after = {k: found.near_word(k) for k in range(16) if found.near_word(k) != before[k]}
        self.assertEqual(after, {k: word for k, word in expected.items() if word != before[k]})

    def trap(self, at, *code, **named):
        """The code traps at the index, and the device then holds what it held before."""
        found = device(*code, **named)
        while found.at != at:
            self.assertFalse(found.stopped)
            self.assertTrue(found.step())
        before = state(found)
        self.assertTrue(found.stopped)
        for _ in range(3):
            self.assertFalse(found.step())
        self.assertEqual(state(found), before)
        with self.assertRaises(Trap):
            run_code(MACHINE, code, named.get("main", MAIN), named.get("near", NEAR), named.get("delays", ()))


class Instructions(Base):
    def test_set(self):
        self.slots({0: 5, 31: -7}, ("set", 0, 5), ("set", 31, 3), ("set", 31, -7))
        self.slots({1: TOP - 1, 2: -TOP}, ("set", 1, TOP - 1), ("set", 2, -TOP))

    def test_do(self):
        for kind, sources, info, expected in (
                ("add", (1, 2), (), 4), ("sub", (1, 2), (), 10), ("sub", (2, 1), (), -10), ("mul", (1, 2), (), -21),
                ("max", (1, 2), (), 7), ("min", (1, 2), (), -3), ("less", (2, 1), (), 1), ("less", (1, 1), (), 0),
                ("equal", (1, 1), (), 1), ("equal", (1, 2), (), 0), ("neg", (1,), (), -7), ("clamp", (1,), (-1, 5), 5),
                ("clamp", (2,), (-1, 5), -1), ("shift", (1,), (1,), 4), ("shift", (2,), (1,), -1),
                ("where", (1, 2, 1), (), -3), ("where", (3, 2, 1), (), 7)):
            found = finished(("set", 1, 7), ("set", 2, -3), ("do", kind, 4, sources, info))
            self.assertEqual(found.slot(4), expected, (kind, sources))
        self.slots({1: 14}, ("set", 1, 7), do("add", 1, 1, 1))

    def test_results_of_do_at_the_ends(self):
        top, low = ("set", 1, TOP - 1), ("set", 2, -TOP)
        one = ("set", 3, 1)
        self.slots({1: TOP - 1, 4: TOP - 1}, top, do("add", 4, 1, 0))
        self.slots({1: TOP - 1, 2: -TOP, 4: -1}, top, low, do("add", 4, 1, 2))
        self.slots({2: -TOP, 4: -TOP}, low, do("add", 4, 2, 0))
        self.slots({1: TOP - 1, 4: 1 - TOP}, top, do("neg", 4, 1))
        self.trap(2, top, one, do("add", 4, 1, 3))
        self.trap(2, low, one, do("sub", 4, 2, 3))
        self.trap(1, low, do("neg", 4, 2))
        self.slots({1: 2 ** 16, 2: 2 ** 15 - 1, 3: 2 ** 31 - 2 ** 16},
                   ("set", 1, 2 ** 16), ("set", 2, 2 ** 15 - 1), do("mul", 3, 1, 2))
        self.trap(2, ("set", 1, 2 ** 16), ("set", 2, 2 ** 15), do("mul", 3, 1, 2))
        self.slots({1: 2 ** 16, 2: -2 ** 15, 3: -TOP}, ("set", 1, 2 ** 16), ("set", 2, -2 ** 15), do("mul", 3, 1, 2))
        self.trap(2, ("set", 1, 2 ** 16), ("set", 2, -2 ** 15 - 1), do("mul", 3, 1, 2))

    def test_load_and_store(self):
        self.slots({2: 203}, ("load", 2, 1, 3))
        self.slots({1: 4, 2: 203}, ("set", 1, 4), ("load", 2, 1, -1))
        self.slots({1: 204}, ("set", 1, 3), ("load", 1, 1, 1))
        self.slots({2: 200, 3: 215}, ("load", 2, 0, 0), ("load", 3, 0, 15))
        self.words({3: 9}, ("set", 2, 9), ("store", 0, 3, 2))
        self.words({0: 5, 15: 5}, ("set", 1, 5), ("store", 1, -5, 1), ("store", 1, 10, 1))
        for name in ("load", "store"):
            for base, offset in ((0, -1), (0, 16), (5, -6), (5, 11), (TOP - 1, 16384), (-TOP, -16384)):
                last = ("load", 2, 1, offset) if name == "load" else ("store", 1, offset, 2)
                self.trap(1, ("set", 1, base), last)
        # The sums of addresses need not fit the machine.
        self.trap(1, ("set", 1, TOP - 1), ("load", 2, 1, 1))

    def test_mac(self):
        near = (2, 3, 5, 7, 11, 13) + (0,) * 10
        self.slots({1: 4, 2: 1 + 2 * 2}, ("set", 2, 1), ("set", 1, 4), ("mac", 2, 3, 1, 4, 1, 1), near=near)
        self.slots({1: 3, 2: 2 * 7 + 3 * 11 + 5 * 13}, ("set", 1, 3), ("mac", 2, 0, 1, 1, 1, 3), near=near)
        self.slots({2: 3 * 4}, ("mac", 2, 0, 0, 0, 0, 3), near=near)
        # The slot of the result can be that of an address.
        self.slots({1: 1 + 3 * 3}, ("set", 1, 1), ("mac", 1, 1, 1, 1, 1, 1), near=near)

    def test_mac_with_strides(self):
        near = (2, 3, 5, 7, 11, 13) + (0,) * 10
        self.slots({1: 4, 2: 2 * 11 + 5 * 7 + 11 * 5}, ("set", 1, 4), ("mac", 2, 0, 2, 1, -1, 3), near=near)
        self.slots({1: 15, 2: 9 * 9 + 13 * 13}, ("set", 1, 15), ("mac", 2, 1, -5, 1, -5, 2), near=near[:10] + (13,) + (0,) * 4 + (9,))

    def test_ends_of_mac(self):
        self.slots({1: 13, 2: 213 ** 2 + 214 ** 2 + 215 ** 2}, ("set", 1, 13), ("mac", 2, 1, 1, 1, 1, 3))
        for base, step in ((14, 1), (-1, 1), (1, -1), (16, -1), (8, 4), (8, -5), (0, -16384), (0, 16384), (16, 0), (-1, 0)):
            self.trap(1, ("set", 1, base), ("mac", 2, 1, step, 0, 0, 3))
            self.trap(1, ("set", 1, base), ("mac", 2, 0, 0, 1, step, 3))
        # A step that is not made can be any.
        self.slots({1: 15, 2: 215 * 200}, ("set", 1, 15), ("mac", 2, 1, 16384, 0, -16384, 1))

    def test_only_the_result_of_mac_must_fit(self):
        big = (TOP - 1, -TOP, 1, -1) + (0,) * 12
        code = ("set", 1, 1), ("mac", 2, 0, 1, 1, 1, 2)
        # (TOP - 1) * -TOP + -TOP * 1 does not fit.
        self.trap(1, *code, near=big)
        near = (-TOP, -TOP, -TOP, TOP - 1) + (0,) * 12
        # TOP * TOP - TOP * (TOP - 1) = TOP is one too many, and one less fits.
        self.trap(1, ("set", 1, 2), ("mac", 2, 0, 1, 1, 1, 2), near=near)
        self.slots({1: 2, 2: TOP - 1}, ("set", 1, 2), ("set", 2, -1), ("mac", 2, 0, 1, 1, 1, 2), near=near)
        self.slots({1: 2, 2: -TOP}, ("set", 1, 2), ("mac", 2, 0, 1, 1, 1, 1), near=(-TOP, 0, 1) + (0,) * 13)
        self.trap(2, ("set", 1, 2), ("set", 2, -1), ("mac", 2, 0, 1, 1, 1, 1), near=(-TOP, 0, 1) + (0,) * 13)

    def test_vector(self):
        near = (1, 2, 3, -4, 5, 2) + (0,) * 10
        for kind, expected in (
                ("add", (-3, 7, 5)), ("sub", (5, -3, 1)), ("mul", (-4, 10, 6)), ("max", (1, 5, 3)), ("min", (-4, 2, 2)),
                ("less", (0, 1, 0)), ("equal", (0, 0, 0))):
            self.words(dict(zip((9, 10, 11), expected)), ("set", 1, 9), ("set", 2, 3), ("vector", kind, 1, 0, 2, 3), near=near)
        # All are read before one is set.
        self.words({1: 1 + 1, 2: 2 + 2, 3: 3 + 3}, ("set", 1, 1), ("vector", "add", 1, 0, 0, 3), near=near)
        self.words({0: 2 + 2, 1: 3 + 3, 2: -4 - 4}, ("set", 1, 1), ("vector", "add", 0, 1, 1, 3), near=near)
        self.words({15: 1}, ("set", 1, 15), ("vector", "equal", 1, 1, 1, 1), near=near)

    def test_ends_of_vector(self):
        self.words({13: 413, 14: 415, 15: 417}, ("set", 1, 13), ("vector", "add", 1, 1, 0, 3))
        for base in (14, -1, 16, TOP - 1, -TOP):
            for slots in ((1, 0, 0), (0, 1, 0), (0, 0, 1)):
                self.trap(1, ("set", 1, base), ("vector", "min") + slots + (3,))
        near = (TOP - 2, 1, -TOP, 1) + (0,) * 12
        one = ("set", 1, 1)
        self.words({0: TOP - 1}, one, ("vector", "add", 0, 0, 1, 1), near=near)
        self.words({2: -TOP + 1}, one, ("set", 2, 2), ("vector", "add", 2, 2, 1, 1), near=near)
        self.words({0: -TOP}, one, ("vector", "min", 0, 0, 1, 1), near=(5, -TOP) + near[2:])
        # The last of the results is one too many: none is set.
        self.trap(1, one, ("vector", "add", 0, 0, 1, 1), near=(TOP - 1, 1) + (0,) * 14)
        self.trap(2, one, ("set", 2, 8), ("vector", "add", 2, 0, 1, 3), near=(5, 1, TOP - 1, 1) + (0,) * 12)
        self.trap(1, one, ("vector", "sub", 0, 0, 1, 1), near=(-TOP, 1) + (0,) * 14)

    def test_skip(self):
        code = (("skip", 1, 2), ("set", 2, 5), ("set", 3, 6), ("set", 4, 7))
        for n, expected in ((-1, {4: 7}), (-TOP, {4: 7}), (0, {2: 5, 3: 6, 4: 7}), (3, {2: 5, 3: 6, 4: 7})):
            self.slots({**expected, **({1: n} if n else {})}, ("set", 1, n), *code)
        self.slots({1: -1, 2: 5}, ("set", 1, -1), ("skip", 1, 0), ("set", 2, 5))

    def test_skip_to_the_end_of_the_code(self):
        found = finished(("set", 1, -1), ("skip", 1, 2), ("set", 2, 5), ("set", 3, 6))
        self.assertEqual((found.at, found.stopped, found.slot(2)), (4, False, 0))
        # What is skipped does not trap.
        self.slots({1: -1}, ("set", 1, -1), ("skip", 1, 1), ("load", 2, 1, 0))
        # All pending transfers are carried out by the skip that ends the code.
        found = finished(("set", 1, -1), ("in", 0, 0, 0, 0, 0, 1), ("skip", 1, 1), ("set", 2, 5), delays=(99,))
        self.assertEqual((found.at, found.near_word(0), found.pending(0)), (4, 100, 0))

    def test_skip_over_a_loop_and_in_a_loop(self):
        self.slots({1: -1}, ("set", 1, -1), ("skip", 1, 3), *loop(2, 1, 1, 3, ("set", 3, 5)))
        # The last instructions of each turn are skipped as long as the slot is negative.
        self.slots({1: 1, 2: 2}, *loop(1, -2, 1, 4, ("skip", 1, 2), ("set", 4, 1), do("add", 2, 2, 4)), ("set", 4, 0))


class Loops(Base):
    def test_turns(self):
        step = do("add", 2, 2, 1)
        self.slots({1: 7, 2: 1 + 3 + 5 + 7}, *loop(1, 1, 2, 4, step))
        self.slots({1: -5, 2: -5}, *loop(1, -5, 3, 1, step))
        self.slots({1: 4, 2: 12}, *loop(1, 4, 0, 3, step))
        self.slots({1: -2, 2: -3 + 0}, *loop(1, 0, -1, 3, step))
        self.slots({1: 3}, *loop(1, 3, 1, 1))
        self.slots({1: 999}, *loop(1, 0, 1, 1000))

    def test_the_slot_is_set_anew_whatever_the_instructions_do(self):
        # The slot gets 50 in each turn, and then the start plus the steps all the same.
        self.slots({1: 50, 2: 1 + 2 + 3}, *loop(1, 1, 1, 3, do("add", 2, 2, 1), ("set", 1, 50)))
        self.slots({1: -9, 2: 10 + 12}, ("set", 1, 77), *loop(1, 10, 2, 2, do("add", 2, 2, 1), ("set", 1, -9)))

    def test_nested(self):
        inner = loop(2, 0, 1, 3, do("add", 3, 3, 1), do("add", 4, 4, 2))
        self.slots({1: 5, 2: 2, 3: 3 * (4 + 5), 4: 6}, *loop(1, 4, 1, 2, *inner))
        # The same slot in both loops.
        self.slots({1: 12, 3: 2 * (10 + 11 + 12)}, *loop(1, 0, 1, 2, *loop(1, 10, 1, 3, do("add", 3, 3, 1))))
        deep = ()
        for slot in range(1, 11):
            deep = loop(slot, 1, 1, 2, *(deep or (do("add", 11, 11, 12),)))
        self.slots({**{slot: 2 for slot in range(1, 11)}, 11: 2 ** 10, 12: 1}, ("set", 12, 1), *deep)

    def test_numbers_at_the_ends(self):
        self.slots({1: TOP - 1}, *loop(1, TOP - 3, 1, 3))
        self.slots({1: -TOP}, *loop(1, TOP - 1, 1 - 2 * TOP, 2))
        self.slots({1: 5}, *loop(1, 5, 2 ** 32, 1))

    def test_steps_of_a_loop(self):
        code = loop(1, 5, 1, 2, ("set", 2, 9))
        found = device(*code)
        seen = [(found.at, found.slot(1), found.slot(2))]
        while found.step():
            seen.append((found.at, found.slot(1), found.slot(2)))
        # The begin, the set, the end, which begins the next turn, the set and the end.
        self.assertEqual(seen, [(0, 0, 0), (1, 5, 0), (2, 5, 9), (1, 6, 9), (2, 6, 9), (3, 6, 9)])


class Transfers(Base):
    def test_in_and_out(self):
        self.words({5: 102, 6: 103}, ("in", 0, 0, 2, 0, 5, 2))
        self.assertEqual(run_code(MACHINE, (("out", 1, 0, 2, 0, 5, 3),), MAIN, NEAR, ()), MAIN[:2] + (205, 206, 207) + MAIN[5:])
        self.words({k: 100 + k for k in range(12)}, ("in", 0, 0, 0, 0, 0, 12))
        self.words({15: 111}, ("set", 1, 12), ("set", 2, 16), ("in", 0, 1, -1, 2, -1, 1))

    def test_addresses_at_the_ends(self):
        for name in ("in", "out"):
            for there, here, count in ((-1, 0, 2), (11, 0, 2), (12, 0, 1), (0, -1, 2), (0, 15, 2), (0, 16, 1), (0, 0, 13),
                                       (-1, -1, 1), (0, 5, 12), (-2, 0, 1), (16384, 0, 1), (0, -16380, 1)):
                self.trap(0, (name, 0, 0, there, 0, here, count))
                self.trap(2, ("set", 1, 3), ("set", 2, 4), (name, 0, 1, there - 3, 2, here - 4, count))
            self.trap(1, ("set", 1, TOP - 1), (name, 0, 1, 1, 0, 0, 1))
            for there, here, count in ((0, 0, 12), (11, 15, 1), (0, 4, 12), (10, 0, 2)):
                self.assertFalse(finished((name, 0, 0, there, 0, here, count)).stopped)

    def test_a_transfer_traps_when_it_is_issued(self):
        found = finished(("in", 0, 0, 0, 0, 0, 1), ("set", 1, 4), ("in", 0, 1, 8, 0, 0, 1), delays=(0, 9))
        self.assertEqual((found.at, found.stopped, found.near_word(0)), (2, True, 100))
        # The addresses are those at the time of issue, the words those at the time when it is carried out.
        found = finished(("set", 1, 3), ("in", 0, 1, 0, 1, 0, 1), ("set", 1, 4000), ("set", 2, 1), delays=(2,))
        self.assertEqual((found.stopped, found.near_word(3)), (False, 103))
        # A trap elsewhere leaves what is pending pending.
        found = finished(("in", 0, 0, 0, 0, 0, 1), ("load", 1, 0, 16), delays=(0 + 5,))
        self.assertEqual((found.at, found.stopped, found.pending(0), found.near_word(0)), (1, True, 1, 200))

    def test_no_delays_and_a_delay_of_nought(self):
        for delays in ((), (0,), (0, 0)):
            found = device(("in", 0, 0, 0, 0, 0, 1), ("load", 1, 0, 0), delays=delays)
            found.step()
            # Behind the instruction that issued it.
            self.assertEqual((found.pending(0), found.near_word(0)), (0, 100))

    def test_a_delay_counts_instructions(self):
        code = (("in", 0, 0, 0, 0, 0, 1),) + tuple(("load", k, 0, 0) for k in range(1, 7))
        for delay in range(6):
            found = finished(*code, delays=(delay,))
            self.assertEqual([found.slot(k) for k in range(1, 7)], [200] * delay + [100] * (6 - delay))
        found = finished(*code, delays=(50,))
        self.assertEqual(([found.slot(k) for k in range(1, 7)], found.near_word(0)), ([200] * 6, 100))

    def test_loops_ends_and_skips_count_too(self):
        # in (3), loop (2), load, end (1), load, end (0): carried out behind the last end.
        body = loop(1, 0, 1, 2, ("load", 2, 0, 0))
        for delay, expected in ((0, 100), (1, 100), (3, 100), (4, 200), (5, 200), (6, 200)):
            found = finished(("in", 0, 0, 0, 0, 0, 1), *body, ("set", 3, 1), delays=(delay,))
            self.assertEqual(found.slot(2), expected, delay)
        for delay, expected in ((0, 100), (1, 100), (2, 200)):
            found = finished(("in", 0, 0, 0, 0, 0, 1), ("skip", 1, 0), ("load", 2, 0, 0), delays=(delay,))
            self.assertEqual(found.slot(2), expected, delay)

    def test_one_transfer_of_a_queue_at_a_time(self):
        code = (("in", 0, 0, 0, 0, 0, 1), ("in", 0, 0, 1, 0, 1, 1), ("in", 0, 0, 2, 0, 2, 1), ("set", 1, 1), ("set", 1, 2))
        found = device(*code, delays=(2, 0, 0))
        seen = []
        while found.step():
            seen.append((found.pending(0), [found.near_word(k) < 200 for k in range(3)]))
        self.assertEqual(seen, [
            (1, [False] * 3), (2, [False] * 3), (2, [True, False, False]), (1, [True, True, False]), (0, [True] * 3)])

    def test_delays_of_each_transfer_and_of_each_queue(self):
        # The delays go round: 3 0 3 0, over all queues together.
        code = (("in", 0, 0, 0, 0, 0, 1), ("in", 1, 0, 1, 0, 1, 1), ("in", 1, 0, 2, 0, 2, 1), ("in", 0, 0, 3, 0, 3, 1),
                ("set", 1, 1), ("set", 1, 1), ("set", 1, 1))
        found = device(*code, delays=(3, 0))
        seen = []
        while found.step():
            seen.append((found.pending(0), found.pending(1)))
        self.assertEqual(seen, [(1, 0), (1, 0), (1, 1), (1, 1), (0, 1), (0, 0), (0, 0)])

    def test_transfers_that_overlap(self):
        # Both set the same near word; the one that is carried out last stays.
        code = (("in", 0, 0, 0, 0, 3, 2), ("in", 1, 0, 5, 0, 4, 2), ("set", 1, 1), ("set", 1, 1))
        for delays, expected in (((0, 0), [100, 105, 106]), ((9, 0), [100, 101, 106]), ((1, 0), [100, 105, 106]),
                                 ((2, 0), [100, 101, 106]), ((9, 9), [100, 105, 106])):
            found = finished(*code, delays=delays)
            self.assertEqual([found.near_word(k) for k in (3, 4, 5)], expected, delays)
        # Words are read when the transfer is carried out: out sends what in has brought, if in comes first.
        code = (("in", 0, 0, 0, 0, 3, 2), ("out", 1, 0, 8, 0, 3, 2), ("set", 1, 1), ("set", 1, 1))
        for delays, expected in (((0, 0), (100, 101)), ((9, 0), (203, 204)), ((9, 9), (100, 101)), ((1, 9), (100, 101))):
            self.assertEqual(run_code(MACHINE, code, MAIN, NEAR, delays)[8:10], expected)

    def test_queue_by_queue_at_the_end(self):
        code = (("in", 1, 0, 5, 0, 0, 1), ("in", 0, 0, 6, 0, 0, 1))
        self.words({0: 105}, *code, delays=(99,))
        self.words({0: 106}, *code, delays=(0, 99))
        # After each instruction, too, the queues are looked at in order.
        code = (("in", 1, 0, 5, 0, 0, 1), ("in", 0, 0, 6, 0, 0, 1), ("set", 1, 1))
        self.words({0: 105}, *code, delays=(1, 0))

    def test_wait(self):
        code = (("in", 0, 0, 0, 0, 0, 1), ("in", 0, 0, 1, 0, 1, 1), ("in", 1, 0, 2, 0, 2, 1), wait(0), ("load", 1, 0, 0),
                ("load", 2, 0, 1), ("load", 3, 0, 2))
        found = device(*code, delays=(50,))
        for _ in range(4):
            found.step()
        self.assertEqual((found.pending(0), found.pending(1)), (0, 1))
        self.slots({1: 100, 2: 101, 3: 202}, *code, delays=(50,))
        # In order: the later transfer sets the word last.
        self.words({0: 101}, ("in", 0, 0, 0, 0, 0, 1), ("in", 0, 0, 1, 0, 0, 1), wait(0), ("set", 1, 1), delays=(50,))
        # What is done behind each instruction is done behind wait for the other queue.
        found = device(("in", 1, 0, 0, 0, 0, 1), wait(0), ("set", 1, 1), delays=(1,))
        found.step()
        found.step()
        self.assertEqual((found.pending(1), found.near_word(0)), (0, 100))

    def test_wait_with_nothing_pending(self):
        self.slots({}, wait(0), wait(1), wait(0))
        found = finished(wait(0), ("in", 0, 0, 0, 0, 0, 1), wait(0), wait(0), wait(1), delays=(9,))
        self.assertEqual((found.at, found.near_word(0)), (5, 100))


class Errors(Base):
    def refuse(self, error, machine=MACHINE, code=(), main=MAIN, near=NEAR, delays=()):
        for call in (run_code, Device):
            with self.assertRaises(error):
                call(machine, code, main, near, delays)

    def test_each_in_order(self):
        bad_code, bad_main, bad_near, bad_delay, trap = (("wait", 9),), MAIN[1:], NEAR + (1,), (1, -1), (("load", 1, 0, 16),)
        self.refuse(MachineError, machine=(31, 12, 16, 2, 3), code=((),), main=bad_main, delays=bad_delay)
        self.refuse(FormError, code=((), ("wait", 9)), main=bad_main, near=bad_near, delays=bad_delay)
        self.refuse(RangeError, code=bad_code, main=bad_main, near=bad_near, delays=bad_delay)
        self.refuse(TooLarge, code=(("loop", 0, 0, 0, 1),) * 17 + (("wait", 0),) + (("end",),) * 17, main=bad_main)
        for wrong in ({"main": bad_main}, {"near": bad_near}, {"main": ()}, {"near": ()}, {"main": MAIN + (1,)},
                      {"near": NEAR[1:]}, {"delays": bad_delay}, {"delays": (-1,)}):
            self.refuse(FeedError, **wrong)
            self.refuse(FeedError, code=trap, **wrong)
        with self.assertRaises(Trap):
            run_code(MACHINE, trap, MAIN, NEAR, ())
        self.assertTrue(Device(MACHINE, trap, MAIN, NEAR, ()).stopped)

    def test_words_that_do_not_fit(self):
        for n in (TOP, -TOP - 1, 2 ** 300):
            self.refuse(FeedError, main=MAIN[:-1] + (n,))
            self.refuse(FeedError, near=(n,) + NEAR[1:])
        for n in (TOP - 1, -TOP):
            self.assertEqual(run_code(MACHINE, (), (n,) * 12, (n,) * 16, ()), (n,) * 12)
        self.assertEqual(run_code((256, 1, 16, 1, 1), (), (-2 ** 255,), NEAR, ()), (-2 ** 255,))
        self.refuse(FeedError, machine=(256, 1, 16, 1, 1), main=(2 ** 255,))

    def test_delays_of_any_size(self):
        self.words({0: 100}, ("in", 0, 0, 0, 0, 0, 1), delays=(2 ** 300,))

    def test_no_such_slot_word_or_queue(self):
        found = device()
        for ask, many in ((found.slot, 32), (found.main_word, 12), (found.near_word, 16), (found.pending, 2)):
            for k in (-1, many, many + 5, -many, 2 ** 70):
                with self.assertRaises(RangeError):
                    ask(k)
            self.assertEqual({type(ask(k)) for k in range(many)}, {int})


class Ends(Base):
    def test_code_without_instructions(self):
        found = device(delays=(3,))
        self.assertEqual((found.at, found.stopped), (0, False))
        before = state(found)
        self.assertIs(found.step(), False)
        self.assertEqual(state(found), before)
        self.assertEqual(run_code(MACHINE, (), MAIN, NEAR, ()), MAIN)

    def test_step_behind_the_end(self):
        found = finished(("set", 1, 4), ("in", 0, 0, 0, 0, 0, 1))
        before = state(found)
        self.assertIs(found.step(), False)
        self.assertEqual(state(found), before)
        self.assertEqual((found.at, found.stopped), (2, False))

    def test_stopped_before_the_first_instruction(self):
        self.trap(0, ("load", 1, 0, 16))
        found = device(("set", 1, 5), ("load", 1, 1, 11))
        self.assertIs(found.stopped, False)
        self.assertIs(found.step(), True)
        self.assertIs(found.stopped, True)

    def test_arguments_stay(self):
        main, near, delays = tuple(MAIN), tuple(NEAR), (1, 2)
        run_code(MACHINE, (("in", 0, 0, 0, 0, 0, 4), ("out", 0, 0, 5, 0, 2, 4)), main, near, delays)
        self.assertEqual((main, near, delays), (MAIN, NEAR, (1, 2)))

    def test_example(self):
        code = (("in", 0, 0, 0, 0, 5, 2), wait(0), ("load", 1, 0, 6), do("neg", 1, 1), ("store", 0, 6, 1), ("out", 0, 0, 2, 0, 6, 1))
        self.assertEqual(run_code((32, 4, 16, 1, 4), code, (7, 8, 0, 0), ZERO, ()), (7, 8, -8, 0))


class Drawn(unittest.TestCase):
    def compare(self, machine, code, main, near, delays):
        """Both devices are alike after each step; True if the code ended."""
        plain = PlainDevice(machine, code, main, near, delays)
        found = Device(machine, code, main, near, delays)
        for turn, _ in enumerate(plain.run()):
            if turn:
                self.assertFalse(found.stopped)
                self.assertIs(found.step(), True)
            pending = [len(plain.queues[q]) for q in range(machine[3])]
            self.assertEqual(found.at, plain.at)
            self.assertEqual(state(found, machine)[2:], (plain.r, plain.main, plain.near, pending))
        self.assertEqual(found.stopped, plain.trapped)
        self.assertIs(found.step(), False)
        if plain.trapped:
            with self.assertRaises(Trap):
                run_code(machine, code, main, near, delays)
        else:
            self.assertEqual(found.at, len(code))
            result = run_code(machine, code, main, near, delays)
            self.assertEqual(result, tuple(plain.main))
            self.assertTrue(is_tuples(result))
        return not plain.trapped

    def test_step_by_step(self):
        ended = 0
        for seed in range(400):
            random = Random(seed)
            machine = random.choice((MACHINE, (32, 5, 20, 4, 16), (33, 20, 16, 1, 1), (64, 9, 17, 3, 4)))
            code = CodeDrawer(seed, machine, random.choice((0.8, 0.97, 1))).code(random.randint(0, 12))
            check_code(machine, code)
            main, near = drawn_memories(seed, machine)
            ended += self.compare(machine, code, main, near, drawn_delays(seed))
        self.assertGreater(ended, 100)
        self.assertLess(ended, 390)


if __name__ == "__main__":
    unittest.main()
