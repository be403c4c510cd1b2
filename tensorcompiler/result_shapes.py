"""The shape of what a node makes of arguments with given shapes, with the errors of its axes."""

from tensorcompiler.errors import AxisError, RangeError
from tensorcompiler.shapes import broadcast, check_shape, letters_of, merged, replaced


def shape_of_result(kind, info, shapes):
    """Return the shape of a node from the shapes of its arguments, or raise its error."""
    maker = _SHAPES[kind]
    shape = maker(info, shapes)
    check_shape(shape)
    return shape


def size_along(shape, axis):
    """Return the size of an axis, or raise AxisError if there is none with this letter."""
    for letter, size in shape:
        if letter == axis:
            return size
    raise AxisError(f"there is no axis {axis}")


def _check_free(shape, letter):
    if letter in letters_of(shape):
        raise AxisError(f"there is an axis {letter} already")


def _broadcast_shape(info, shapes):
    shape = shapes[0]
    for other in shapes[1:]:
        shape = broadcast(shape, other)
    return shape


def _own_shape(info, shapes):
    return info[0]


def _reduced_shape(info, shapes):
    size_along(shapes[0], info[0])
    return replaced(shapes[0], info[0], ())


def _dot_shape(info, shapes):
    a, b = shapes
    size_along(a, info[0])
    size_along(b, info[0])
    # The shape that still has the axis may be too large: only the result must be valid.
    return replaced(merged(a, b), info[0], ())


def _order_shape(info, shapes):
    letters = info[0]
    if sorted(letters) != sorted(letters_of(shapes[0])):
        raise AxisError("the letters are not those of the argument, each once")
    sizes = dict(shapes[0])
    return tuple([(letter, sizes[letter]) for letter in letters])


def _rename_shape(info, shapes):
    axis, new = info
    size = size_along(shapes[0], axis)
    _check_free(shapes[0], new)
    return replaced(shapes[0], axis, ((new, size),))


def _spread_shape(info, shapes):
    axis, size = info
    _check_free(shapes[0], axis)
    return shapes[0] + ((axis, size),)


def _cut_shape(info, shapes):
    axis, start, count = info
    if start + count > size_along(shapes[0], axis):
        raise RangeError("the part that is cut reaches behind the end")
    return replaced(shapes[0], axis, ((axis, count),))


def _pad_shape(info, shapes):
    axis, before, after = info
    size = size_along(shapes[0], axis)
    return replaced(shapes[0], axis, ((axis, before + size + after),))


def _join_shape(info, shapes):
    a, b = shapes
    axis = info[0]
    size = size_along(a, axis) + size_along(b, axis)
    if letters_of(a) != letters_of(b) or replaced(a, axis, ()) != replaced(b, axis, ()):
        raise AxisError("the joined shapes differ in another axis")
    return replaced(a, axis, ((axis, size),))


def _window_shape(info, shapes):
    axis, new, width, stride = info
    size = size_along(shapes[0], axis)
    _check_free(shapes[0], new)
    if width > size:
        raise RangeError("the window is wider than the axis")
    return replaced(shapes[0], axis, ((axis, (size - width) // stride + 1), (new, width)))


def _fold_shape(info, shapes):
    axis, second, stride, size = info
    many = size_along(shapes[0], axis)
    width = size_along(shapes[0], second)
    if second == axis:
        raise AxisError("an axis is folded with itself")
    if stride * (many - 1) + width > size:
        raise RangeError("the folded axis is too short")
    return replaced(replaced(shapes[0], second, ()), axis, ((axis, size),))


def _gather_shape(info, shapes):
    a, i = shapes
    size_along(a, info[0])
    for letter, _ in i:
        _check_free(a, letter)
    return replaced(a, info[0], i)


_SHAPES = {
    "input": _own_shape, "const": _own_shape,
    "add": _broadcast_shape, "sub": _broadcast_shape, "mul": _broadcast_shape, "max": _broadcast_shape,
    "min": _broadcast_shape, "less": _broadcast_shape, "equal": _broadcast_shape, "neg": _broadcast_shape,
    "clamp": _broadcast_shape, "shift": _broadcast_shape, "where": _broadcast_shape,
    "sum": _reduced_shape, "peak": _reduced_shape, "dot": _dot_shape, "order": _order_shape,
    "rename": _rename_shape, "spread": _spread_shape, "cut": _cut_shape, "pad": _pad_shape,
    "join": _join_shape, "window": _window_shape, "fold": _fold_shape, "gather": _gather_shape,
}
