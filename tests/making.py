"""Graphs, feeds and shapes for the tests; the random ones are the same in every run."""

from random import Random

from tensorcompiler.domains import domain_of
from tensorcompiler.errors import TensorError
from tensorcompiler.graphs import check_graph
from tensorcompiler.kinds import KINDS


def shape_of(word):
    """The shape that a word like "i3k4" stands for."""
    axes = []
    for sign in word:
        if sign.isdigit():
            axes[-1] = (axes[-1][0], axes[-1][1] * 10 + int(sign))
        else:
            axes.append((sign, 0))
    return tuple(axes)


def given(word, low=-9, high=9):
    """An input node."""
    return ("input", (), (shape_of(word), low, high))


def const(word, *data):
    return ("const", (), (shape_of(word), data))


def node(kind, args, *info):
    return (kind, tuple(args), info)


def domain(word, low=-9, high=9):
    return (shape_of(word), low, high)


def is_tuples(thing):
    """True if all sequences in the thing are tuples, at every depth."""
    if isinstance(thing, tuple):
        return all(is_tuples(item) for item in thing)
    return isinstance(thing, (int, str)) and not isinstance(thing, bool)


LETTERS = "ijkm"


def _random_shape(random):
    letters = random.sample(LETTERS, random.randint(0, 3))
    return tuple((letter, random.randint(1, 3)) for letter in letters)


def _random_node(random, kind, many):
    """A node of the kind with args below many; it need not be valid."""
    if kind == "input":
        return (kind, (), (_random_shape(random), -random.randint(0, 4), random.randint(0, 4)))
    if kind == "const":
        shape = _random_shape(random)
        count = 1
        for _, size in shape:
            count *= size
        return (kind, (), (shape, tuple(random.randint(-3, 3) for _ in range(count))))

    def letter():
        return random.choice(LETTERS + "z")

    def small(low, high):
        return random.randint(low, high)

    fields = {
        "clamp": lambda: (-small(0, 3), small(0, 3)), "shift": lambda: (small(1, 3),),
        "sum": lambda: (letter(),), "peak": lambda: (letter(),), "dot": lambda: (letter(),),
        "order": lambda: ("".join(random.sample(LETTERS, small(0, 3))),),
        "rename": lambda: (letter(), letter()), "spread": lambda: (letter(), small(1, 3)),
        "cut": lambda: (letter(), small(0, 2), small(1, 3)), "pad": lambda: (letter(), small(0, 2), small(0, 2)),
        "join": lambda: (letter(),), "window": lambda: (letter(), letter(), small(1, 3), small(1, 2)),
        "fold": lambda: (letter(), letter(), small(1, 2), small(1, 6)), "gather": lambda: (letter(),),
    }
    counts = {"where": 3}
    for two in ("add", "sub", "mul", "max", "min", "less", "equal", "dot", "join", "gather"):
        counts[two] = 2
    args = tuple(random.randrange(many) for _ in range(counts.get(kind, 1)))
    return (kind, args, fields.get(kind, tuple)())


def random_graph(seed, size, kinds=KINDS):
    """A valid graph with at most that many nodes, of these kinds, with one to three outputs."""
    random = Random(seed)
    nodes = [given("i2j3", -4, 4), given("k2", -3, 5), const("j3", 2, -1, 1)]
    domains = [domain_of(one, ()) for one in nodes]
    while len(nodes) < size:
        kind = random.choice(kinds)
        for _ in range(60):
            one = _random_node(random, kind, len(nodes))
            try:
                found = domain_of(one, tuple(domains))
            except TensorError:
                continue
            # Small values and shapes leave room for what is built on them.
            if max(-found[1], found[2]) <= 10 ** 6 and len(found[0]) <= 3:
                nodes.append(one)
                domains.append(found)
                break
    outs = tuple(random.randrange(len(nodes)) for _ in range(random.randint(1, 3)))
    graph = (tuple(nodes), outs)
    check_graph(graph)
    return graph


def random_feeds(seed, graph):
    """Feeds within the intervals of the inputs, often at their ends."""
    random = Random(seed)
    feeds = []
    for kind, _, info in graph[0]:
        if kind == "input":
            shape, low, high = info
            count = 1
            for _, size in shape:
                count *= size
            feeds.append(tuple(random.choice((low, high, random.randint(low, high))) for _ in range(count)))
    return tuple(feeds)
