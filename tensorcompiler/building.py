"""Building: from a graph, a schedule and a machine to an image, whose code computes the graph."""

from tensorcompiler.changes import apply_change
from tensorcompiler.errors import NoRoom
from tensorcompiler.fitting import check_fitting
from tensorcompiler.generating import SPARE, generate
from tensorcompiler.graphs import check_graph
from tensorcompiler.lives import lives
from tensorcompiler.lowering import lower
from tensorcompiler.machines import check_machine
from tensorcompiler.placing import check_places
from tensorcompiler.rewriting import replay


class Image:
    """What runs on a machine: the code, and where in main memory everything stands."""

    def __init__(self, graph, program, machine, code, inputs, constants, outputs, words):
        self.graph = graph
        self.program = program
        self.machine = machine
        self.code = code
        self.inputs = inputs
        self.constants = constants
        self.outputs = outputs
        self.words = words


def build(graph, schedule, machine):
    """Return the image, or raise the error of the graph, the machine or the schedule."""
    check_graph(graph)
    check_machine(machine)
    steps, kept, changes, places = schedule
    rewritten = replay(graph, steps)
    program, buffers = lower(rewritten, kept)
    for change in changes:
        program = apply_change(program, change)
    nodes, outs = rewritten
    check_fitting(nodes, program, machine)
    sizes = [size for role, size in program[0] if role == "main"]
    used = check_places(lives(program, tuple([buffers[out] for out in outs])), sizes, places)
    given = _words_of(program, "in")
    spare = _words_of(program, "near")
    if given + used > machine[1]:
        raise NoRoom("main memory is too small")
    if spare + SPARE > machine[2]:
        raise NoRoom("the near memory is too small")
    layout = _layout(program, [given + place for place in places])
    code = generate(machine, program, layout, spare)
    addresses = [None if buffer is None else layout[buffer] for buffer in buffers]
    inputs = tuple([addresses[place] for place, node in enumerate(nodes) if node[0] == "input"])
    outputs = tuple([addresses[out] for out in outs])
    return Image(rewritten, program, machine, code, inputs, _constants(nodes, addresses), outputs, given + used)


def _words_of(program, wanted):
    """Return how many words the buffers with a role have together."""
    return sum([size for role, size in program[0] if role == wanted])


def _layout(program, places):
    """Return the address of each buffer: those with the role "main" have the places, all others stand in a row."""
    behind = {"in": 0, "near": 0}
    remaining = list(places)
    layout = []
    for role, size in program[0]:
        if role == "main":
            layout.append(remaining.pop(0))
        else:
            layout.append(behind[role])
            behind[role] = behind[role] + size
    return tuple(layout)


def _constants(nodes, addresses):
    """Return the pairs of an address and a word for all const nodes."""
    found = []
    for (kind, _, info), address in zip(nodes, addresses):
        if kind == "const":
            found.extend([(address + at, n) for at, n in enumerate(info[1])])
    return tuple(found)
