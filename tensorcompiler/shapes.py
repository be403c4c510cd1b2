"""Shapes: tuples of axes, each a pair (letter, size)."""

from tensorcompiler.errors import AxisError, RangeError, RankError, TooLarge

RANK_LIMIT = 4
SIZE_LIMIT = 16
COUNT_LIMIT = 256


def check_shape(shape):
    """Return None if the shape is valid, otherwise raise its error."""
    if len(shape) > RANK_LIMIT:
        raise RankError(f"a shape has {len(shape)} axes")
    if len(set(letters_of(shape))) < len(shape):
        raise AxisError("two axes of a shape have the same letter")
    for letter, size in shape:
        if size < 1 or size > SIZE_LIMIT:
            raise RangeError(f"the size of the axis {letter} is not from 1 to {SIZE_LIMIT}")
    if count_of(shape) > COUNT_LIMIT:
        raise TooLarge("a shape has too many positions")


def count_of(shape):
    """Return the product of the sizes, of a shape that need not be valid."""
    count = 1
    for _, size in shape:
        count = count * size
    return count


def letters_of(shape):
    """Return the string of the letters in order."""
    return "".join([letter for letter, _ in shape])


def merged(first, second):
    """Return the broadcast of two shapes, which need not be a valid shape."""
    sizes = dict(first)
    added = []
    for letter, size in second:
        if letter not in sizes:
            added.append((letter, size))
        elif sizes[letter] != size:
            raise AxisError(f"the axis {letter} has two sizes")
    return first + tuple(added)


def broadcast(first, second):
    """Return the broadcast of two valid shapes."""
    shape = merged(first, second)
    check_shape(shape)
    return shape


def replaced(shape, axis, axes):
    """Return the shape with the axes in the place of one axis."""
    found = []
    for pair in shape:
        if pair[0] == axis:
            found.extend(axes)
        else:
            found.append(pair)
    return tuple(found)


def steps_of(shape):
    """Return for each letter by how much the position grows with the index on its axis, a dict."""
    steps = {}
    step = 1
    for letter, size in reversed(shape):
        steps[letter] = step
        step = step * size
    return steps


def offset(shape, at):
    """Return the position of the element with these indexes."""
    position = 0
    for (_, size), index in zip(shape, at):
        position = position * size + index
    return position


def indexes(shape, position):
    """Return the index on each axis of the element at the position."""
    found = []
    rest = position
    for _, size in reversed(shape):
        found.append(rest % size)
        rest = rest // size
    return tuple(reversed(found))
