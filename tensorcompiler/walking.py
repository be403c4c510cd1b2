"""What stands in a loop program: its statements, their expressions and their affine forms."""

from tensorcompiler.errors import FormError

_STATEMENT_LENGTHS = {"loop": 6, "when": 3, "put": 4, "copy": 6}
_EXPRESSION_LENGTHS = {"number": 2, "index": 2, "load": 3, "pick": 6, "apply": 4, "guard": 4}


def body_of(statement):
    """Return the statements in a statement."""
    if statement[0] == "loop":
        return statement[5]
    if statement[0] == "when":
        return statement[2]
    return ()


def inner_of(expr):
    """Return the expressions directly in an expression."""
    if expr[0] == "apply":
        return expr[2]
    if expr[0] == "pick":
        return (expr[5],)
    if expr[0] == "guard":
        return (expr[2], expr[3])
    return ()


def all_statements(body, around):
    """Return each statement with those around it, the outermost first; around are those around the body.

    A statement stands ahead of those in it. FormError if one is unknown.
    """
    found = []
    for statement in body:
        _check_length(statement, _STATEMENT_LENGTHS.get(_name_of(statement)))
        found.append((statement, around))
        found.extend(all_statements(body_of(statement), around + (statement,)))
    return found


def all_parts(expr, level):
    """Return each expression in an expression, itself too, with its level, the level of the whole being given.

    FormError if one is unknown.
    """
    _check_length(expr, _EXPRESSION_LENGTHS.get(_name_of(expr)))
    found = [(expr, level)]
    for inner in inner_of(expr):
        found.extend(all_parts(inner, level + 1))
    return found


def parts_of_statement(statement):
    """Return each expression in a statement, but not in its body, with its level from 1 on."""
    if statement[0] == "put":
        return all_parts(statement[3], 1)
    return []


def forms_of_statement(statement):
    """Return the affine forms of a statement, without those of its expression and its body."""
    if statement[0] == "when":
        return (statement[1],)
    if statement[0] == "put":
        return (statement[2],)
    if statement[0] == "copy":
        return (statement[2], statement[4])
    return ()


def forms_of_part(part):
    """Return the affine forms of an expression, without those of the expressions in it."""
    if part[0] == "index" or part[0] == "guard":
        return (part[1],)
    if part[0] == "load" or part[0] == "pick":
        return (part[2],)
    return ()


def loop_variables(around):
    """Return the variables of the loops among the statements."""
    return [statement[1] for statement in around if statement[0] == "loop"]


def _name_of(thing):
    return thing[0] if len(thing) > 0 else ""


def _check_length(thing, length):
    """Raise FormError unless the statement or expression has this length, which is None for an unknown name."""
    if len(thing) != length:
        raise FormError("a statement or an expression is unknown")
