"""The lives of buffers: from which statement of a program to which one their words count."""

from tensorcompiler.walking import all_statements, parts_of_statement


def lives(program, outs):
    """Return the life of each buffer with the role "main": the indexes of its first and last statement."""
    buffers, body = program
    met = {}
    for place, statement in enumerate(body):
        for buffer in _buffers_in(statement):
            first, _ = met.get(buffer, (place, place))
            met[buffer] = (first, place)
    found = []
    for buffer, (role, _) in enumerate(buffers):
        if role == "main":
            first, last = met.get(buffer, (0, 0))
            found.append((first, len(body) if buffer in outs else last))
    return tuple(found)


def meet(one, other):
    """Return True if neither of two lives ends before the other begins."""
    return one[0] <= other[1] and other[0] <= one[1]


def _buffers_in(statement):
    """Return the buffers that occur in a statement, at whatever depth."""
    found = []
    for one, _ in all_statements((statement,), ()):
        if one[0] == "put":
            found.append(one[1])
        if one[0] == "copy":
            found.extend([one[1], one[3]])
        for part, _ in parts_of_statement(one):
            if part[0] in ("load", "pick"):
                found.append(part[1])
    return found
