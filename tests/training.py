"""Things to train for the tests: a line through points, and a small network, with their steps worked out by hand."""

from making import const, given, node
from schedules import plain_schedule
from tensorcompiler.trainer import Trainer
from tensorcompiler.updating import step_graph

# loss = the sum over i of (the sum over k of x[i, k] w[k] + b - y[i])^2, for the parameters w and b.
LINE = ((
    given("i3k2", -4, 4), given("k2", -100, 100), given("i3", -9, 9), given("", -50, 60),
    node("dot", (0, 1), "k"), node("add", (4, 3)), node("sub", (5, 2)), node("mul", (6, 6)), node("sum", (7,), "i")), (8,))
LIMITS = {"rate": 3, "low": -40, "high": 45}
MACHINE = (64, 300, 64, 2, 4)
BATCHES = (
    ((1, 2, -3, 0, 4, 1), (5, -6, 7)), ((0, 0, 1, 1, -1, 4), (9, 9, -9)), ((4, 4, 4, 4, 4, 4), (-9, -9, -9)), ((1, 0, 0, 1, 0, 0), (0, 0, 3)),
    ((-4, 3, 2, -1, 0, 1), (1, 2, 3)))
FIRST = ((3, -2), (10,))


def limit(n, low, high):
    return min(max(n, low), high)


def line_step(weights, batch, rate, low, high):
    """The weights after one step for LINE, and the loss ahead of it."""
    (w, (b,)), (x, y) = weights, batch
    off = [x[2 * i] * w[0] + x[2 * i + 1] * w[1] + b - y[i] for i in range(3)]

    def moved(p, g):
        return limit(p - (g + 2 ** (rate - 1)) // 2 ** rate, low, high)

    slopes = [sum(2 * off[i] * x[2 * i + k] for i in range(3)) for k in range(2)]
    return (tuple(moved(p, g) for p, g in zip(w, slopes)), (moved(b, sum(2 * one for one in off)),)), sum(one * one for one in off)


def line_trainer(weights=FIRST, machine=MACHINE, **changed):
    limits = {**LIMITS, **changed}
    schedule = plain_schedule(step_graph(LINE, (1, 3), limits["rate"], limits["low"], limits["high"]))
    return Trainer(LINE, (1, 3), schedule=schedule, machine=machine, weights=weights, **limits)


# loss = the sum over j of (v[j] max(0, the sum over k of x[k] u[k, j])) less y, squared, for the parameters u and v.
NETWORK = ((
    given("k2j3", -60, 60), given("k2", -3, 3), given("j3", -60, 60), given("", -20, 20), const("", 0),
    node("dot", (1, 0), "k"), node("max", (4, 5)), node("dot", (6, 2), "j"), node("sub", (7, 3)), node("mul", (8, 8))), (9,))
