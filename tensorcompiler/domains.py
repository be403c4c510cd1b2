"""The domain of a node: the shape of its value and an interval for its values."""

from tensorcompiler.errors import FormError, KindError, RangeError, TooWide
from tensorcompiler.intervals import interval_of
from tensorcompiler.kinds import ARG_COUNTS, FIELDS, WIDTH_LIMIT
from tensorcompiler.result_shapes import shape_of_result
from tensorcompiler.shapes import count_of

_FIELD_RANGES = {
    "n": (1, 30), "size": (1, 16), "count": (1, 16), "width": (1, 16), "stride": (1, 16),
    "start": (0, 16), "before": (0, 16), "after": (0, 16),
}


def domain_of(node, domains):
    """Return the domain (shape, low, high) of a node, given those of all earlier nodes."""
    kind, args, info = node
    _check_form(kind, args, info, len(domains))
    check_fields(kind, info)
    given = [domains[arg] for arg in args]
    shape = shape_of_result(kind, info, [domain[0] for domain in given])
    low, high = interval_of(kind, info, given)
    if low < -(1 << WIDTH_LIMIT) or high > 1 << WIDTH_LIMIT:
        raise TooWide("an interval reaches beyond the widest one")
    return (shape, low, high)


def _check_form(kind, args, info, many):
    if kind not in FIELDS:
        raise KindError("there is no such kind")
    if len(args) != ARG_COUNTS[kind]:
        raise FormError(f"a node of the kind {kind} has another number of arguments")
    if len(info) != len(FIELDS[kind]):
        raise FormError(f"a node of the kind {kind} has another number of fields")
    if kind == "const" and len(info[1]) != count_of(info[0]):
        raise FormError("there are not as many data as the shape has positions")
    for arg in args:
        if arg < 0 or arg >= many:
            raise FormError("an argument is not an earlier node")


def check_fields(kind, info):
    """Raise RangeError if a field of a node of this kind is out of its range."""
    if kind == "input" and info[1] > info[2]:
        raise RangeError("the interval of an input is empty")
    if kind == "clamp":
        _check_clamp(info[0], info[1])
    for name, field in zip(FIELDS[kind], info):
        if name in _FIELD_RANGES:
            least, most = _FIELD_RANGES[name]
            if field < least or field > most:
                raise RangeError(f"the field {name} is not from {least} to {most}")


def _check_clamp(low, high):
    widest = 1 << WIDTH_LIMIT
    if low > high:
        raise RangeError("the interval of a clamp is empty")
    if low < -widest or high > widest:
        raise RangeError("a field of a clamp is too wide")
