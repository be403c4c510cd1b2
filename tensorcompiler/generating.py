"""Code generation: from a loop program with a layout to code of the accelerator."""

from tensorcompiler.coding import Coder
from tensorcompiler.machines import check_machine

SPARE = 20


def generate(machine, program, layout, spare):
    """Return code that executes the program, its buffers at the addresses of the layout.

    The SPARE words of the near memory from the address spare on hold what is on its way to and from main memory.
    """
    check_machine(machine)
    buffers, body = program
    return Coder([role for role, _ in buffers], layout, spare).finish(body)
