"""The accelerator: running code on words."""

from tensorcompiler.cursor import Cursor
from tensorcompiler.effects import effect_of
from tensorcompiler.errors import FeedError, RangeError, Trap
from tensorcompiler.instructions import SLOTS, check_code
from tensorcompiler.machines import word_bounds


def run_code(machine, code, main, near, delays):
    """Return main memory after the code has run on the memories, or raise Trap."""
    device = Device(machine, code, main, near, delays)
    while device.step():
        pass
    if device.stopped:
        raise Trap("an instruction traps")
    return device.all_of_main()


class Device:
    """An accelerator that executes code step by step."""

    def __init__(self, machine, code, main, near, delays):
        check_code(machine, code)
        _, main_size, near_size, queues, _ = machine
        low, high = word_bounds(machine)
        _check_memory(main, main_size, low, high)
        _check_memory(near, near_size, low, high)
        if any([delay < 0 for delay in delays]):
            raise FeedError("a delay is negative")
        self._code = code
        self._main = list(main)
        self._near = list(near)
        self._slots = [0] * SLOTS
        self._bounds = (low, high, main_size)
        self._delays = delays
        self._issued = 0
        # Each pending transfer is a list of what is left of its delay and of the transfer.
        self._queues = [[] for _ in range(queues)]
        self._cursor = Cursor()
        self._effect = self._next_effect()

    def step(self):
        """Execute one instruction and return True; return False if there is none or if it traps."""
        if self._effect is None:
            return False
        self._execute(self._effect)
        for queue in self._queues:
            if len(queue) > 0:
                self._pass_time(queue)
        if self._cursor.place == len(self._code):
            for queue in self._queues:
                self._settle(queue)
        self._effect = self._next_effect()
        return True

    @property
    def at(self):
        """The index of the next instruction, the number of instructions at the end."""
        return self._cursor.place

    @property
    def stopped(self):
        """True if the next instruction traps."""
        return self._effect is None and self._cursor.place < len(self._code)

    def slot(self, k):
        """Return the word in a slot."""
        return _item(self._slots, k)

    def main_word(self, k):
        """Return a word of main memory."""
        return _item(self._main, k)

    def near_word(self, k):
        """Return a word of the near memory."""
        return _item(self._near, k)

    def pending(self, q):
        """Return how many transfers are pending in a queue."""
        return len(_item(self._queues, q))

    def all_of_main(self):
        """Return the tuple of the words of main memory."""
        return tuple(self._main)

    def _next_effect(self):
        """Return the effect of the next instruction, None if it traps or if the code has ended."""
        if self._cursor.place == len(self._code):
            return None
        return effect_of(self._code[self._cursor.place], self._slots, self._near, self._bounds)

    def _execute(self, effect):
        name = effect[0]
        if name == "begin" or name == "turn":
            self._take_turn(name)
            return
        if name == "slot":
            self._slots[effect[1]] = effect[2]
        elif name == "near":
            _, address, words = effect
            self._near[address:address + len(words)] = words
        elif name == "issue":
            self._issue(effect[1], effect[2])
        elif name == "wait":
            self._settle(self._queues[effect[1]])
        self._cursor.go_on(effect[1] if name == "skip" else 0)

    def _take_turn(self, name):
        if name == "begin":
            told = self._cursor.begin(self._code[self._cursor.place])
        else:
            told = self._cursor.turn()
        if told is not None:
            slot, n = told
            self._slots[slot] = n

    def _issue(self, queue, transfer):
        delay = 0 if len(self._delays) == 0 else self._delays[self._issued % len(self._delays)]
        self._issued = self._issued + 1
        self._queues[queue].append([delay, transfer])

    def _pass_time(self, queue):
        """Do to a queue with pending transfers what is done after each instruction."""
        oldest = queue[0]
        if oldest[0] == 0:
            queue.pop(0)
            self._carry_out(oldest[1])
        else:
            oldest[0] = oldest[0] - 1

    def _settle(self, queue):
        """Carry out all transfers that are pending in a queue."""
        for _, transfer in queue:
            self._carry_out(transfer)
        queue.clear()

    def _carry_out(self, transfer):
        name, there, here, count = transfer
        if name == "in":
            self._near[here:here + count] = self._main[there:there + count]
        else:
            self._main[there:there + count] = self._near[here:here + count]


def _check_memory(words, size, low, high):
    if len(words) != size:
        raise FeedError("a memory does not have as many words as the machine says")
    if min(words) < low or max(words) > high:
        raise FeedError("a word of a memory does not fit the machine")


def _item(items, k):
    if k < 0 or k >= len(items):
        raise RangeError("there is no such slot, word or queue")
    return items[k]
