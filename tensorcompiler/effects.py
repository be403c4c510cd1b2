"""What an instruction of the accelerator does to given slots and near memory.

An effect is a tuple: ("slot", d, n) sets a slot; ("near", address, words) sets words of the near memory;
("issue", queue, transfer) issues a transfer (name, main address, near address, count); ("wait", queue);
("begin",) and ("turn",) are those of a loop and of its end; ("skip", count) skips instructions.
"""

from tensorcompiler.kinds import pointwise


def effect_of(instruction, slots, near, bounds):
    """Return the effect of an instruction, or None if it traps.

    The bounds are the least and the greatest number that a word can hold, and the number of words of main memory.
    """
    maker = _EFFECTS[instruction[0]]
    return maker(instruction, slots, near, bounds)


def _set_effect(instruction, slots, near, bounds):
    return ("slot", instruction[1], instruction[2])


def _slot_effect(slot, n, bounds):
    if n < bounds[0] or n > bounds[1]:
        return None
    return ("slot", slot, n)


def _do_effect(instruction, slots, near, bounds):
    _, kind, slot, sources, info = instruction
    return _slot_effect(slot, pointwise(kind, tuple([slots[source] for source in sources]), info), bounds)


def _load_effect(instruction, slots, near, bounds):
    _, slot, base, offset = instruction
    address = slots[base] + offset
    if address < 0 or address >= len(near):
        return None
    return ("slot", slot, near[address])


def _store_effect(instruction, slots, near, bounds):
    _, base, offset, slot = instruction
    address = slots[base] + offset
    if address < 0 or address >= len(near):
        return None
    return ("near", address, [slots[slot]])


def _words_along(near, first, step, count):
    """Return count words of the near memory, the step apart, or None if one is outside."""
    last = first + step * (count - 1)
    if min(first, last) < 0 or max(first, last) >= len(near):
        return None
    return [near[first + step * k] for k in range(count)]


def _mac_effect(instruction, slots, near, bounds):
    _, slot, one, step, other, stride, count = instruction
    xs = _words_along(near, slots[one], step, count)
    ys = _words_along(near, slots[other], stride, count)
    if xs is None or ys is None:
        return None
    return _slot_effect(slot, slots[slot] + sum([x * y for x, y in zip(xs, ys)]), bounds)


def _vector_effect(instruction, slots, near, bounds):
    _, kind, to, one, other, count = instruction
    rows = [_words_along(near, slots[base], 1, count) for base in (to, one, other)]
    if None in rows:
        return None
    words = [pointwise(kind, pair, ()) for pair in zip(rows[1], rows[2])]
    if min(words) < bounds[0] or max(words) > bounds[1]:
        return None
    return ("near", slots[to], words)


def _loop_effect(instruction, slots, near, bounds):
    return ("begin",)


def _end_effect(instruction, slots, near, bounds):
    return ("turn",)


def _skip_effect(instruction, slots, near, bounds):
    return ("skip", instruction[2] if slots[instruction[1]] < 0 else 0)


def _transfer_effect(instruction, slots, near, bounds):
    name, queue, one, offset, other, far, count = instruction
    there = slots[one] + offset
    here = slots[other] + far
    if min(there, here) < 0 or there + count > bounds[2] or here + count > len(near):
        return None
    return ("issue", queue, (name, there, here, count))


def _wait_effect(instruction, slots, near, bounds):
    return instruction


_EFFECTS = {
    "set": _set_effect, "do": _do_effect, "load": _load_effect, "store": _store_effect, "mac": _mac_effect,
    "vector": _vector_effect, "loop": _loop_effect, "end": _end_effect, "skip": _skip_effect,
    "in": _transfer_effect, "out": _transfer_effect, "wait": _wait_effect,
}
