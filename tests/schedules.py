"""Schedules for the tests: the plain one, straight from point 907, and drawn ones."""

from random import Random

from tensorcompiler.changes import apply_change
from tensorcompiler.errors import ChangeError, TensorError
from tensorcompiler.graphs import check_graph
from tensorcompiler.lives import lives
from tensorcompiler.lowering import lower
from tensorcompiler.placing import check_places, choose_places
from tensorcompiler.rewriting import replay, sites
from tensorcompiler.rules import RULES
from tensorcompiler.shapes import count_of

REDUCING = ("sum", "peak", "dot", "fold")


def is_computed(node):
    return node[0] not in ("input", "const")


def must_be_kept(graph):
    nodes, outs = graph
    found = set(outs)
    for place, (kind, args, _) in enumerate(nodes):
        if kind in REDUCING:
            found.add(place)
        if kind == "gather":
            found.add(args[0])
    return {place for place in found if is_computed(nodes[place])}


def plain_schedule(graph):
    """No steps, all computed nodes, no changes, and one buffer behind the other."""
    domains = check_graph(graph)
    kept = tuple(place for place, node in enumerate(graph[0]) if is_computed(node))
    places, end = [], 0
    for place in kept:
        places.append(end)
        end += count_of(domains[place][0])
    return ((), kept, (), tuple(places))


def drawn_steps(random, graph, most):
    steps = []
    for _ in range(random.randint(0, most)):
        found = [(rule, node) for rule in RULES for node in sites(graph, rule)]
        if found:
            steps.append(random.choice(found))
            graph = replay(graph, steps[-1:])
    return tuple(steps), graph


def loop_paths(body, path=()):
    for place, one in enumerate(body):
        if one[0] in ("loop", "when"):
            if one[0] == "loop":
                yield path + (place,)
            yield from loop_paths(one[5] if one[0] == "loop" else one[2], path + (place,))


def drawn_change(random, program):
    buffers, body = program
    path = random.choice(list(loop_paths(body)))
    name = random.choice(("tile", "tile", "swap", "unroll", "reverse", "split", "fuse", "stage", "stage", "stage"))
    if name == "tile":
        return (name, path, random.randint(1, 4))
    if name == "split":
        return (name, path, random.randint(1, 2))
    if name == "stage":
        buffer = random.choice([k for k, (role, _) in enumerate(buffers) if role != "near"])
        # The whole buffer, and now and then a part of it that the outermost loop moves.
        count = random.choice((buffers[buffer][1],) * 3 + (1, 2, 3))
        form = (0, ()) if random.random() < 0.8 else (0, ((0, count),))
        return (name, path, buffer, form, count, random.choice(("in", "both", "both", "out")))
    return (name, path)


def drawn_changes(random, program, most):
    changes = []
    for _ in range(random.randint(0, most)):
        if not list(loop_paths(program[1])):
            break
        change = drawn_change(random, program)
        try:
            program = apply_change(program, change)
        except ChangeError:
            continue
        changes.append(change)
    return tuple(changes), program


def drawn_places(random, all_lives, sizes):
    """Places that are accepted: chosen ones, or ones that are tried at random."""
    if random.random() < 0.5:
        return choose_places(all_lives, sizes)
    places = []
    for buffer in range(len(sizes)):
        for _ in range(200):
            tried = tuple(places) + (random.randint(0, 2 * sum(sizes)),)
            try:
                check_places(all_lives[:buffer + 1], sizes[:buffer + 1], tried)
            except TensorError:
                continue
            places.append(tried[-1])
            break
        else:
            return choose_places(all_lives, sizes)
    return tuple(places)


def drawn_schedule(seed, graph, steps=3, changes=4):
    """A schedule with steps, few or many kept nodes, changes and places of buffers that may share words."""
    random = Random(seed)
    made, rewritten = drawn_steps(random, graph, steps)
    must = must_be_kept(rewritten)
    computed = [place for place, node in enumerate(rewritten[0]) if is_computed(node)]
    share = random.choice((0, 0.3, 1))
    kept = tuple(place for place in computed if place in must or random.random() < share)
    try:
        program, buffers = lower(rewritten, kept)
    except TensorError:
        kept = tuple(computed)
        program, buffers = lower(rewritten, kept)
    changed, program = drawn_changes(random, program, changes)
    sizes = tuple(size for role, size in program[0] if role == "main")
    found = lives(program, tuple(buffers[out] for out in rewritten[1]))
    return (made, kept, changed, drawn_places(random, found, sizes))
