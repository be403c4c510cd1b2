"""Changes of loop programs, each in one place, which are made only if they leave the same words."""

from tensorcompiler.affine import constant, minus, of_variable, plus, shifted, times
from tensorcompiler.agreeing import agree
from tensorcompiler.errors import ChangeError, TensorError
from tensorcompiler.loops import STATEMENT_LIMIT, check_program
from tensorcompiler.mapping import Replacing, Staging
from tensorcompiler.walking import all_statements, body_of

CHANGES = ("tile", "swap", "unroll", "reverse", "split", "fuse", "stage")

_LENGTHS = {"tile": 3, "swap": 2, "unroll": 2, "reverse": 2, "split": 3, "fuse": 2, "stage": 6}


def apply_change(program, change):
    """Return the changed program, or raise ChangeError."""
    check_program(program)
    if len(change) < 2 or change[0] not in CHANGES or len(change) != _LENGTHS[change[0]]:
        raise ChangeError("there is no such change")
    path = change[1]
    within = _body_around(program[1], path)
    maker = _MAKERS[change[0]]
    made = maker(program, within, path[-1], change[2:])
    changed = (_buffers_after(program[0], change), _rebuilt(program[1], path, made))
    try:
        same = agree(program, changed)
    except TensorError:
        raise ChangeError("the changed program is not valid or does not run") from None
    if not same:
        raise ChangeError("the changed program leaves other words")
    return changed


def _body_around(body, path):
    """Return the innermost body on the path, or raise ChangeError if the path does not lead to a loop."""
    within = ()
    found = None
    inner = body
    for index in path:
        if index < 0 or index >= len(inner):
            raise ChangeError("the path leads to no statement")
        within = inner
        found = inner[index]
        inner = body_of(found)
    if found is None or found[0] != "loop":
        raise ChangeError("the path does not lead to a loop")
    return within


def _rebuilt(body, path, made):
    """Return the body with another one in the place of the innermost body on the path."""
    if len(path) == 1:
        return made
    place = path[0]
    inner = _rebuilt(body_of(body[place]), path[1:], made)
    return _with_instead(body, place, (body[place][:-1] + (inner,),))


def _with_instead(body, place, statements):
    """Return the body with statements in the place of one."""
    return body[:place] + statements + body[place + 1:]


def _buffers_after(buffers, change):
    if change[0] == "stage":
        return buffers + (("near", change[4]),)
    return buffers


def _require(holds):
    if not holds:
        raise ChangeError("what the change needs does not hold")


# Each function below makes the change of the loop at a place of a body, and returns the body after it.

def _tile(program, body, place, fields):
    _, variable, start, step, count, inner = body[place]
    size = fields[0]
    _require(1 <= size <= count)
    outer = 1 + max([one[1] for one, _ in all_statements(program[1], ()) if one[0] == "loop"])
    # How far the turns of the outer loop and of the inner one lie behind the first turn of the loop.
    turns = plus(times(of_variable(outer), size), of_variable(variable))
    replaced = Replacing(variable, shifted(times(turns, step), start)).body(inner)
    if count % size != 0:
        replaced = (("when", minus(constant(count - 1), turns), replaced),)
    tiled = ("loop", variable, 0, 1, size, replaced)
    return _with_instead(body, place, (("loop", outer, 0, 1, (count + size - 1) // size, (tiled,)),))


def _swap(program, body, place, fields):
    outer = body[place]
    _require(len(outer[5]) == 1 and outer[5][0][0] == "loop")
    inner = outer[5][0]
    swapped = outer[:5] + (inner[5],)
    return _with_instead(body, place, (inner[:5] + ((swapped,),),))


def _unroll(program, body, place, fields):
    _, variable, start, step, count, inner = body[place]
    # More statements than this are an error of the changed program, and need not be made first.
    _require(count * len(all_statements(inner, ())) <= STATEMENT_LIMIT)
    copies = ()
    for turn in range(count):
        copies = copies + Replacing(variable, constant(start + step * turn)).body(inner)
    return _with_instead(body, place, copies)


def _reverse(program, body, place, fields):
    _, variable, start, step, count, inner = body[place]
    return _with_instead(body, place, (("loop", variable, start + step * (count - 1), -step, count, inner),))


def _split(program, body, place, fields):
    head, inner = body[place][:5], body[place][5]
    at = fields[0]
    _require(1 <= at < len(inner))
    return _with_instead(body, place, (head + (inner[:at],), head + (inner[at:],)))


def _fuse(program, body, place, fields):
    first = body[place]
    _require(place + 1 < len(body))
    second = body[place + 1]
    _require(second[0] == "loop" and second[2:5] == first[2:5])
    moved = Replacing(second[1], of_variable(first[1])).body(second[5])
    return body[:place] + (first[:5] + (first[5] + moved,),) + body[place + 2:]


def _stage(program, body, place, fields):
    buffer, form, count, mode = fields
    buffers = program[0]
    _require(0 <= buffer < len(buffers) and buffers[buffer][0] != "near" and mode in ("in", "out", "both"))
    new = len(buffers)
    inner = Staging(buffer, new, form).body(body[place][5])
    if mode != "out":
        inner = (("copy", new, constant(0), buffer, form, count),) + inner
    if mode != "in":
        inner = inner + (("copy", buffer, form, new, constant(0), count),)
    return _with_instead(body, place, (body[place][:5] + (inner,),))


_MAKERS = {
    "tile": _tile, "swap": _swap, "unroll": _unroll, "reverse": _reverse, "split": _split, "fuse": _fuse,
    "stage": _stage,
}
