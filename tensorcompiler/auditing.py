"""The audit: running code on terms, and asking whether it runs without harm for all inputs and all delays."""

from tensorcompiler.audited_memory import AuditedMemory
from tensorcompiler.cursor import Cursor
from tensorcompiler.errors import FeedError, MayOverflow, Unsettled
from tensorcompiler.instructions import SLOTS, check_code
from tensorcompiler.machines import word_bounds


def audit_code(table, machine, code, main):
    """Return what main memory holds at the end, ids and None, or raise an AuditError."""
    check_code(machine, code)
    if len(main) != machine[1]:
        raise FeedError("there are not as many terms as the machine has words of main memory")
    audit = Audit(table, machine, main)
    if not all([term is None or audit.fits(term) for term in main]):
        raise FeedError("a term in main memory does not fit the machine")
    cursor = Cursor()
    while cursor.place < len(code):
        instruction = code[cursor.place]
        name = instruction[0]
        if name == "loop" or name == "end":
            audit.take_turn(cursor.begin(instruction) if name == "loop" else cursor.turn())
        elif name == "skip":
            # Even where nothing can be skipped, the condition must be known.
            known = audit.settled(instruction[1])
            cursor.go_on(instruction[2] if known < 0 else 0)
        else:
            execute = _EXECUTED[name]
            execute(audit, instruction)
            cursor.go_on(0)
    return audit.main.all_ids()


class Audit:
    """The slots and memories of an accelerator that holds terms, and its transfers in flight."""

    def __init__(self, table, machine, main):
        self.table = table
        self.main = AuditedMemory(main)
        self.near = AuditedMemory([None] * machine[2])
        self._bounds = word_bounds(machine)
        self._slots = [table.number(0)] * SLOTS
        # For each queue the transfers in flight: the memory and the row of the source, and those of the target.
        self._flights = [[] for _ in range(machine[3])]

    def term(self, slot):
        """Return the term that a slot holds."""
        return self._slots[slot]

    def hold(self, slot, term):
        """Set a slot to a term."""
        self._slots[slot] = term

    def take_turn(self, told):
        """Set the slot of a loop, given with its number, for a turn; do nothing for None."""
        if told is not None:
            slot, n = told
            self._slots[slot] = self.table.number(n)

    def settled(self, slot):
        """Return the number that a slot holds, or raise Unsettled."""
        low, high = self.table.span(self._slots[slot])
        if low != high:
            raise Unsettled("an address or a condition is not a number")
        return low

    def fits(self, term):
        """Return True if all numbers that a term can be fit the machine."""
        low, high = self.table.span(term)
        return self._bounds[0] <= low and high <= self._bounds[1]

    def check_fit(self, terms):
        """Raise MayOverflow if one of the terms can be a number that does not fit the machine."""
        if not all([self.fits(term) for term in terms]):
            raise MayOverflow("a result may not fit the machine")

    def check(self, reads, sets):
        """Raise the error of an instruction that reads and sets rows, each given behind its memory."""
        for memory, row in reads + sets:
            memory.check_inside(row)
        for memory, row in reads:
            memory.check_read(row)
        for memory, row in sets:
            memory.check_set(row)
        for memory, row in reads:
            memory.check_known(row)

    def transfer(self, queue, source, target):
        """Carry out a transfer between rows, each given behind its memory, and count it as in flight."""
        (memory, row), (other, there) = source, target
        self.check([source], [target])
        other.hold(there, memory.ids_of(row))
        memory.count_source(row, 1)
        other.count_target(there, 1)
        self._flights[queue].append((memory, row, other, there))

    def land(self, queue):
        """Count the transfers of a queue as in flight no longer."""
        for memory, row, other, there in self._flights[queue]:
            memory.count_source(row, -1)
            other.count_target(there, -1)
        self._flights[queue] = []


# Each function below executes an instruction.

def _execute_set(audit, instruction):
    audit.hold(instruction[1], audit.table.number(instruction[2]))


def _execute_do(audit, instruction):
    _, kind, slot, sources, info = instruction
    made = audit.table.make(kind, tuple([audit.term(source) for source in sources]), info)
    audit.check_fit([made])
    audit.hold(slot, made)


def _execute_load(audit, instruction):
    _, slot, base, offset = instruction
    low, high = audit.table.span(audit.term(base))
    if low == high:
        row = (low + offset, 1, 1)
    else:
        first, by, many, counted = audit.table.row(audit.term(base))
        row = (first + offset, by, many)
    audit.check([(audit.near, row)], [])
    found = tuple(audit.near.ids_of(row))
    audit.hold(slot, found[0] if low == high else audit.table.pick(found, counted))


def _execute_store(audit, instruction):
    _, base, offset, slot = instruction
    row = (audit.settled(base) + offset, 1, 1)
    audit.check([], [(audit.near, row)])
    audit.near.hold(row, [audit.term(slot)])


def _execute_mac(audit, instruction):
    _, slot, one, step, other, stride, count = instruction
    rows = ((audit.settled(one), step, count), (audit.settled(other), stride, count))
    audit.check([(audit.near, row) for row in rows], [])
    total = audit.term(slot)
    for x, y in zip(audit.near.ids_of(rows[0]), audit.near.ids_of(rows[1])):
        total = audit.table.make("add", (total, audit.table.make("mul", (x, y), ())), ())
    audit.check_fit([total])
    audit.hold(slot, total)


def _execute_vector(audit, instruction):
    _, kind, to, one, other, count = instruction
    rows = [(audit.settled(base), 1, count) for base in (to, one, other)]
    audit.check([(audit.near, rows[1]), (audit.near, rows[2])], [(audit.near, rows[0])])
    pairs = list(zip(audit.near.ids_of(rows[1]), audit.near.ids_of(rows[2])))
    made = [audit.table.make(kind, pair, ()) for pair in pairs]
    audit.check_fit(made)
    audit.near.hold(rows[0], made)


def _execute_transfer(audit, instruction):
    name, queue, one, offset, other, far, count = instruction
    there = (audit.main, (audit.settled(one) + offset, 1, count))
    here = (audit.near, (audit.settled(other) + far, 1, count))
    if name == "in":
        audit.transfer(queue, there, here)
    else:
        audit.transfer(queue, here, there)


def _execute_wait(audit, instruction):
    audit.land(instruction[1])


_EXECUTED = {
    "set": _execute_set, "do": _execute_do, "load": _execute_load, "store": _execute_store, "mac": _execute_mac,
    "vector": _execute_vector, "in": _execute_transfer, "out": _execute_transfer, "wait": _execute_wait,
}
