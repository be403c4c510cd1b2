"""Code of the accelerator: tuples of instructions, each a tuple of a name and its fields."""

from tensorcompiler.domains import check_fields
from tensorcompiler.errors import FormError, RangeError, TooLarge
from tensorcompiler.kinds import ARG_COUNTS, FIELDS, POINTWISE
from tensorcompiler.machines import check_machine, word_bounds

# What the fields of each instruction are, in order. "sources" and "info" are tuples, "kind" is a string.
INSTRUCTION_FIELDS = {
    "set": ("slot", "word"),
    "do": ("kind", "slot", "sources", "info"),
    "load": ("slot", "slot", "offset"),
    "store": ("slot", "offset", "slot"),
    "mac": ("slot", "slot", "offset", "slot", "offset", "lanes"),
    "vector": ("kind", "slot", "slot", "slot", "lanes"),
    "loop": ("slot", "begin", "begin", "turns"),
    "end": (),
    "skip": ("slot", "skipped"),
    "in": ("queue", "slot", "offset", "slot", "offset", "count"),
    "out": ("queue", "slot", "offset", "slot", "offset", "count"),
    "wait": ("queue",),
}

SLOTS = 32
OFFSET_LIMIT = 16384
_CODE_LIMIT = 4000000
_DEPTH_LIMIT = 16
_STEP_LIMIT = 1000000000


def check_code(machine, code):
    """Return None if the code is valid for the machine, otherwise raise its error."""
    check_machine(machine)
    for instruction in code:
        _check_form(instruction)
    _check_skips(code, _loops_behind(code))
    _check_ranges(machine, code)
    if len(code) > _CODE_LIMIT:
        raise TooLarge("there are too many instructions")
    _check_loops(code)


def _check_form(instruction):
    if not isinstance(instruction, tuple) or len(instruction) == 0:
        raise FormError("an instruction is no tuple with a name")
    name = instruction[0]
    if not isinstance(name, str) or name not in INSTRUCTION_FIELDS:
        raise FormError("the name of an instruction is unknown")
    fields = INSTRUCTION_FIELDS[name]
    if len(instruction) != len(fields) + 1:
        raise FormError(f"the instruction {name} has another number of fields")
    for field, value in zip(fields, instruction[1:]):
        if not _is_of_its_kind(field, value):
            raise FormError(f"a field of the instruction {name} is of a wrong kind")
    if name == "do":
        _check_counts(instruction)
    if name == "vector" and (instruction[1] not in POINTWISE or ARG_COUNTS[instruction[1]] != 2):
        raise FormError("the kind of a vector is not pointwise with two args")


def _is_of_its_kind(field, value):
    if field == "kind":
        return isinstance(value, str)
    if field == "sources" or field == "info":
        return isinstance(value, tuple) and all([isinstance(n, int) for n in value])
    return isinstance(value, int)


def _check_counts(instruction):
    _, kind, _, sources, info = instruction
    if kind not in POINTWISE:
        raise FormError("the kind of an instruction is not pointwise")
    if len(sources) != ARG_COUNTS[kind] or len(info) != len(FIELDS[kind]):
        raise FormError(f"there is another number of sources or fields than the kind {kind} has")


def _loops_behind(code):
    """Return for each instruction the index of the innermost loop that is open behind it, -1 if there is none."""
    around = [-1]
    found = []
    for at, instruction in enumerate(code):
        if instruction[0] == "loop":
            around.append(at)
        if instruction[0] == "end":
            around.pop()
            if len(around) == 0:
                raise FormError("an end is outside of all loops")
        found.append(around[-1])
    if len(around) > 1:
        raise FormError("a loop has no end")
    return found


def _check_skips(code, behind):
    for at, instruction in enumerate(code):
        if instruction[0] == "skip" and instruction[2] > 0:
            last = at + instruction[2]
            if last >= len(code):
                raise FormError("a skip reaches behind the end of the code")
            # Where the same loop is open as ahead of them, all loops of the skipped instructions are whole.
            if behind[last] != behind[at]:
                raise FormError("a skip reaches across the begin or the end of a loop")


def _bounds(machine):
    """Return the least and the greatest number that each field can have on the machine."""
    width, _, _, queues, lanes = machine
    return {
        "slot": (0, SLOTS - 1), "word": word_bounds(machine), "offset": (-OFFSET_LIMIT, OFFSET_LIMIT),
        "lanes": (1, lanes), "begin": (-(1 << width), 1 << width), "turns": (1, 1000), "skipped": (0, 4000000),
        "queue": (0, queues - 1), "count": (1, 4096),
    }


def _check_ranges(machine, code):
    bounds = _bounds(machine)
    # The same instruction stands in long code many times, and is looked at once.
    known = {}
    for instruction in code:
        if instruction not in known:
            _check_range(instruction, bounds)
            known[instruction] = True


def _check_range(instruction, bounds):
    name = instruction[0]
    for field, value in zip(INSTRUCTION_FIELDS[name], instruction[1:]):
        if field in bounds:
            _check_number(value, bounds[field])
    if name == "do":
        _, kind, _, sources, info = instruction
        for source in sources:
            _check_number(source, bounds["slot"])
        check_fields(kind, info)
        if kind == "clamp":
            _check_number(info[0], bounds["word"])
            _check_number(info[1], bounds["word"])
    if name == "loop":
        _, _, start, step, count = instruction
        _check_number(start, bounds["word"])
        _check_number(start + step * (count - 1), bounds["word"])


def _check_number(n, bounds):
    low, high = bounds
    if n < low or n > high:
        raise RangeError("a number of an instruction is out of its range")


def _check_loops(code):
    """Raise TooLarge if loops are too deep, or if the execution has too many steps."""
    counts = []
    steps = [0]
    for instruction in code:
        if instruction[0] == "end":
            turn = steps.pop() + 1
            steps[-1] = steps[-1] + 1 + counts.pop() * turn
        else:
            if len(counts) > _DEPTH_LIMIT:
                raise TooLarge("there are too many loops around an instruction")
            if instruction[0] == "loop":
                counts.append(instruction[4])
                steps.append(0)
            else:
                steps[-1] = steps[-1] + 1
    if steps[0] > _STEP_LIMIT:
        raise TooLarge("the execution has too many steps")
