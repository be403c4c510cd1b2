"""Training: steps of descent on the accelerator, and a journal that survives crashes."""

from tensorcompiler.building import build
from tensorcompiler.errors import FeedError, JournalError, RangeError
from tensorcompiler.graphs import inputs_of
from tensorcompiler.images import run_image
from tensorcompiler.journal import journal_line, read_line
from tensorcompiler.shapes import count_of
from tensorcompiler.updating import step_graph


class Trainer:
    """The weights of a graph, and what is needed to take steps of descent with them."""

    def __init__(self, graph, parameters, *, rate, low, high, schedule, machine, weights):
        self._image = build(step_graph(graph, parameters, rate, low, high), schedule, machine)
        self._parameters = parameters
        shapes = [graph[0][place][2][0] for place in inputs_of(graph)]
        self._inputs = len(shapes)
        self._sizes = tuple([count_of(shapes[parameter]) for parameter in parameters])
        self._ends = (low, high)
        self._check_weights(weights)
        self._weights = weights
        self._steps = 0
        self._journal = journal_line(0, weights)
        self._first_line = self._journal

    @property
    def weights(self):
        """The tuple of the tuples of the weights."""
        return self._weights

    @property
    def steps(self):
        """How many steps there were so far."""
        return self._steps

    @property
    def journal(self):
        """The lines for the first weights and for each step."""
        return self._journal

    def step(self, batch, filler, delays):
        """Take one step of descent for a batch, and return the loss ahead of it."""
        if len(batch) != self._inputs - len(self._parameters):
            raise FeedError("there are not as many tuples as batch inputs")
        fed = dict(zip(self._parameters, self._weights))
        remaining = list(batch)
        feeds = [fed[place] if place in fed else remaining.pop(0) for place in range(self._inputs)]
        outputs = run_image(self._image, tuple(feeds), filler, delays)
        self._weights = outputs[:-1]
        self._steps = self._steps + 1
        self._journal = self._journal + journal_line(self._steps, self._weights)
        return outputs[-1][0]

    def read_whole_line(self, line, number):
        """Return the weights of a line of a journal of this trainer, or raise JournalError."""
        steps, weights = read_line(line, self._sizes)
        if steps != number:
            raise JournalError("a line of the journal has another number")
        low, high = self._ends
        if any([n < low or n > high for row in weights for n in row]):
            raise JournalError("a weight of the journal is not allowed")
        if number == 0 and line + "\n" != self._first_line:
            raise JournalError("the journal begins with other weights")
        return weights

    def restore(self, steps, weights, journal):
        """Set the trainer to weights after a number of steps, with their journal."""
        self._weights = weights
        self._steps = steps
        self._journal = journal

    def _check_weights(self, weights):
        if len(weights) != len(self._sizes):
            raise FeedError("there is not a tuple of weights for each parameter")
        low, high = self._ends
        for row, size in zip(weights, self._sizes):
            if len(row) != size:
                raise FeedError("there are not as many weights as a parameter has elements")
            if min(row) < low or max(row) > high:
                raise RangeError("a weight is not allowed")


def resume(trainer, text):
    """Set a trainer to the last whole line of a journal, and return the number of its steps."""
    lines = text.split("\n")[:-1]
    if len(lines) == 0:
        raise JournalError("the journal has no whole line")
    rows = [trainer.read_whole_line(line, number) for number, line in enumerate(lines)]
    steps = len(rows) - 1
    trainer.restore(steps, rows[-1], "".join([line + "\n" for line in lines]))
    return steps
