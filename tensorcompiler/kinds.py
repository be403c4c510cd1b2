"""The kinds of nodes: what they are given, and what the pointwise ones make."""

NODE_LIMIT = 400
WORK_LIMIT = 50000
WIDTH_LIMIT = 200

KINDS = (
    "input", "const", "add", "sub", "mul", "max", "min", "less", "equal", "neg", "clamp", "shift", "where",
    "sum", "peak", "dot", "order", "rename", "spread", "cut", "pad", "join", "window", "fold", "gather",
)

POINTWISE = ("add", "sub", "mul", "max", "min", "less", "equal", "neg", "clamp", "shift", "where")

ARG_COUNTS = {
    "input": 0, "const": 0, "add": 2, "sub": 2, "mul": 2, "max": 2, "min": 2, "less": 2, "equal": 2,
    "neg": 1, "clamp": 1, "shift": 1, "where": 3, "sum": 1, "peak": 1, "dot": 2, "order": 1, "rename": 1,
    "spread": 1, "cut": 1, "pad": 1, "join": 2, "window": 1, "fold": 1, "gather": 2,
}

FIELDS = {
    "input": ("shape", "low", "high"), "const": ("shape", "data"),
    "add": (), "sub": (), "mul": (), "max": (), "min": (), "less": (), "equal": (), "neg": (),
    "clamp": ("low", "high"), "shift": ("n",), "where": (),
    "sum": ("axis",), "peak": ("axis",), "dot": ("axis",), "order": ("letters",), "rename": ("axis", "new"),
    "spread": ("axis", "size"), "cut": ("axis", "start", "count"), "pad": ("axis", "before", "after"),
    "join": ("axis",), "window": ("axis", "new", "width", "stride"),
    "fold": ("axis", "second", "stride", "size"), "gather": ("axis",),
}


def limit(n, low, high):
    """Return the number of the interval that is closest to n."""
    if n < low:
        return low
    if n > high:
        return high
    return n


def _add(values, info):
    return values[0] + values[1]


def _sub(values, info):
    return values[0] - values[1]


def _mul(values, info):
    return values[0] * values[1]


def _max(values, info):
    return max(values[0], values[1])


def _min(values, info):
    return min(values[0], values[1])


def _less(values, info):
    return 1 if values[0] < values[1] else 0


def _equal(values, info):
    return 1 if values[0] == values[1] else 0


def _neg(values, info):
    return -values[0]


def _clamp(values, info):
    return limit(values[0], info[0], info[1])


def _shift(values, info):
    # Adding half of the divisor first makes the floor a rounding, with a half going up.
    return (values[0] + (1 << (info[0] - 1))) >> info[0]


def _where(values, info):
    return values[1] if values[0] != 0 else values[2]


_MAKERS = {
    "add": _add, "sub": _sub, "mul": _mul, "max": _max, "min": _min, "less": _less, "equal": _equal,
    "neg": _neg, "clamp": _clamp, "shift": _shift, "where": _where,
}


def pointwise(kind, values, info):
    """Return the element that a pointwise kind makes of the elements of its arguments."""
    maker = _MAKERS[kind]
    return maker(values, info)
