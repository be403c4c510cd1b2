"""The interval of what a node makes of arguments with given domains."""

from tensorcompiler.kinds import pointwise


def corners(one, other):
    """Return the least and the greatest product of an end of one interval and an end of the other."""
    ends = [one[0] * other[0], one[0] * other[1], one[1] * other[0], one[1] * other[1]]
    return (min(ends), max(ends))


def interval_of(kind, info, given):
    """Return the interval of a node from the domains of its arguments, a list."""
    maker = _INTERVALS[kind]
    return maker(kind, info, given)


def _ends(domain):
    return (domain[1], domain[2])


def _size(domain, axis):
    sizes = dict(domain[0])
    return sizes[axis]


def _input_interval(kind, info, given):
    return (info[1], info[2])


def _const_interval(kind, info, given):
    return (min(info[1]), max(info[1]))


def _rising_interval(kind, info, given):
    """Return the interval of a pointwise kind that falls in none of its arguments."""
    lows = tuple([domain[1] for domain in given])
    highs = tuple([domain[2] for domain in given])
    return (pointwise(kind, lows, info), pointwise(kind, highs, info))


def _sub_interval(kind, info, given):
    return (given[0][1] - given[1][2], given[0][2] - given[1][1])


def _mul_interval(kind, info, given):
    return corners(_ends(given[0]), _ends(given[1]))


def _truth_interval(kind, info, given):
    return (0, 1)


def _neg_interval(kind, info, given):
    return (-given[0][2], -given[0][1])


def _where_interval(kind, info, given):
    return (min(given[1][1], given[2][1]), max(given[1][2], given[2][2]))


def _sum_interval(kind, info, given):
    size = _size(given[0], info[0])
    return (size * given[0][1], size * given[0][2])


def _dot_interval(kind, info, given):
    size = _size(given[0], info[0])
    low, high = corners(_ends(given[0]), _ends(given[1]))
    return (size * low, size * high)


def _same_interval(kind, info, given):
    return _ends(given[0])


def _pad_interval(kind, info, given):
    return (min(given[0][1], 0), max(given[0][2], 0))


def _join_interval(kind, info, given):
    return (min(given[0][1], given[1][1]), max(given[0][2], given[1][2]))


def _fold_interval(kind, info, given):
    width = _size(given[0], info[1])
    return (min(width * given[0][1], 0), max(width * given[0][2], 0))


_INTERVALS = {
    "input": _input_interval, "const": _const_interval, "add": _rising_interval, "sub": _sub_interval,
    "mul": _mul_interval, "max": _rising_interval, "min": _rising_interval, "less": _truth_interval,
    "equal": _truth_interval, "neg": _neg_interval, "clamp": _rising_interval, "shift": _rising_interval,
    "where": _where_interval, "sum": _sum_interval, "peak": _same_interval, "dot": _dot_interval,
    "order": _same_interval, "rename": _same_interval, "spread": _same_interval, "cut": _same_interval,
    "pad": _pad_interval, "join": _join_interval, "window": _same_interval, "fold": _fold_interval,
    "gather": _same_interval,
}
