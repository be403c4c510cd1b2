"""Machines: tuples (width, main, near, queues, lanes)."""

from tensorcompiler.errors import MachineError

_BOUNDS = (("width", 32, 256), ("main", 1, 16384), ("near", 16, 4096), ("queues", 1, 4), ("lanes", 1, 16))


def check_machine(machine):
    """Return None if the machine can be built for, otherwise raise MachineError."""
    for n, (name, low, high) in zip(machine, _BOUNDS):
        if n < low or n > high:
            raise MachineError(f"the field {name} of a machine is not from {low} to {high}")


def fits(machine, n):
    """Return True if a word of the machine can hold the number."""
    check_machine(machine)
    low, high = word_bounds(machine)
    return low <= n <= high


def word_bounds(machine):
    """Return the least and the greatest number that a word of a valid machine can hold."""
    width = machine[0]
    return (-(1 << (width - 1)), (1 << (width - 1)) - 1)
