"""The normal forms of terms.

A form is a tuple: ("number", n), ("sum", n, pairs) with pairs (unit, factor) in the order of the units,
("variable", key), or (kind, parts, fields). Units and parts are ids of a table of terms. The parts of "pick"
are its choices and then its index. A table has the methods form(term), span(term) and number(n).
"""

from math import gcd

from tensorcompiler.intervals import corners
from tensorcompiler.kinds import limit, pointwise


def parts_of(form):
    """Return the ids that a form is made of."""
    if form[0] == "number" or form[0] == "variable":
        return ()
    if form[0] == "sum":
        return tuple([unit for unit, _ in form[2]])
    return form[1]


def value_of(form, found, values):
    """Return the value of a form from those of the ids that it is made of and those of the variables."""
    name = form[0]
    if name == "number":
        return form[1]
    if name == "variable":
        return values[form[1]]
    if name == "sum":
        return form[1] + sum([factor * found[unit] for unit, factor in form[2]])
    parts = [found[part] for part in form[1]]
    if name == "pick":
        return parts[parts[-1]]
    if name == "max":
        return max(parts)
    if name == "min":
        return min(parts)
    return pointwise(name, tuple(parts), form[2])


def sum_of(table, term):
    """Return a term as a sum: its number and its pairs."""
    form = table.form(term)
    if form[0] == "number":
        return (form[1], ())
    if form[0] == "sum":
        return (form[1], form[2])
    return (0, ((term, 1),))


def form_of_sum(table, number, pairs):
    """Return the normal form of a sum that is no number."""
    if number == 0 and len(pairs) == 1 and pairs[0][1] == 1:
        return table.form(pairs[0][0])
    return ("sum", number, pairs)


def row_of(table, index):
    """Return a term that is no number as c + g V: c, g, the pairs of V, and the interval of V."""
    number, pairs = sum_of(table, index)
    by = 0
    for _, factor in pairs:
        by = gcd(by, factor)
    if pairs[0][1] < 0:
        by = -by
    low, high = table.span(index)
    ends = ((low - number) // by, (high - number) // by)
    return (number, by, tuple([(unit, factor // by) for unit, factor in pairs]), (min(ends), max(ends)))


def made_form(table, kind, ids, info):
    """Return what a pointwise kind makes of terms: a form, low and high.

    If low is high, the term is this number, whatever the form is.
    """
    maker = _MAKERS[kind]
    return maker(table, kind, ids, info)


def _known(table, term):
    low, high = table.span(term)
    return (table.form(term), low, high)


def _settled(n):
    return (("number", n), n, n)


def _plus(table, one, other, sign):
    """Return one term plus sign times another one; the sign is 1 or -1."""
    number, pairs = sum_of(table, one)
    more, further = sum_of(table, other)
    number = number + sign * more
    # The pairs of the first term are not made again, so that the sums on the way to a long one share theirs.
    found = {pair[0]: pair for pair in pairs}
    cancels = False
    for unit, factor in further:
        before = found[unit][1] if unit in found else 0
        found[unit] = (unit, before + sign * factor)
        cancels = cancels or before * sign * factor < 0
    pairs = tuple(sorted(found.values()))
    if cancels:
        return _cancelled(table, number, pairs)
    low, high = table.span(one)
    least, most = corners((sign, sign), table.span(other))
    return (form_of_sum(table, number, pairs), low + least, high + most)


def _cancelled(table, number, pairs):
    """Return the sum without the pairs whose factor is 0."""
    remaining = tuple([pair for pair in pairs if pair[1] != 0])
    low = high = number
    for unit, factor in remaining:
        least, most = corners((factor, factor), table.span(unit))
        low = low + least
        high = high + most
    return (form_of_sum(table, number, remaining), low, high)


def _times(table, term, by):
    """Return a term times a number."""
    number, pairs = sum_of(table, term)
    low, high = corners((by, by), table.span(term))
    return (form_of_sum(table, by * number, tuple([(unit, by * factor) for unit, factor in pairs])), low, high)


def _add_form(table, kind, ids, info):
    return _plus(table, ids[0], ids[1], 1)


def _sub_form(table, kind, ids, info):
    return _plus(table, ids[0], ids[1], -1)


def _neg_form(table, kind, ids, info):
    return _times(table, ids[0], -1)


def _mul_form(table, kind, ids, info):
    a, b = ids
    for one, other in ((a, b), (b, a)):
        low, high = table.span(one)
        if low == high:
            return _times(table, other, low)
    low, high = corners(table.span(a), table.span(b))
    return ((kind, tuple(sorted(ids)), ()), low, high)


def _extreme_form(table, kind, ids, info):
    """Return the greatest or the least: a set of members, with at most one number among them."""
    members = []
    for term in ids:
        form = table.form(term)
        members.extend(form[1] if form[0] == kind else (term,))
    numbers = [member for member in members if table.form(member)[0] == "number"]
    if len(numbers) > 1:
        members = [member for member in members if member not in numbers]
        ends = tuple([table.form(member)[1] for member in numbers])
        members.append(table.number(pointwise(kind, ends, ())))
    members = sorted(set(members))
    if len(members) == 1:
        return _known(table, members[0])
    low, high = table.span(members[0])
    for member in members[1:]:
        least, most = table.span(member)
        low = pointwise(kind, (low, least), ())
        high = pointwise(kind, (high, most), ())
    return ((kind, tuple(members), ()), low, high)


def _less_form(table, kind, ids, info):
    (low, high), (least, most) = table.span(ids[0]), table.span(ids[1])
    if high < least:
        return _settled(1)
    if low >= most or ids[0] == ids[1]:
        return _settled(0)
    return ((kind, ids, ()), 0, 1)


def _equal_form(table, kind, ids, info):
    (low, high), (least, most) = table.span(ids[0]), table.span(ids[1])
    if ids[0] == ids[1]:
        return _settled(1)
    if high < least or most < low:
        return _settled(0)
    return ((kind, tuple(sorted(ids)), ()), 0, 1)


def _clamp_form(table, kind, ids, info):
    low, high = table.span(ids[0])
    if info[0] <= low and high <= info[1]:
        return _known(table, ids[0])
    return ((kind, ids, info), limit(low, info[0], info[1]), limit(high, info[0], info[1]))


def _shift_form(table, kind, ids, info):
    low, high = table.span(ids[0])
    return ((kind, ids, info), pointwise(kind, (low,), info), pointwise(kind, (high,), info))


def _where_form(table, kind, ids, info):
    c, a, b = ids
    low, high = table.span(c)
    if low > 0 or high < 0 or a == b:
        return _known(table, a)
    if low == high:
        return _known(table, b)
    (low, high), (least, most) = table.span(a), table.span(b)
    return ((kind, ids, ()), min(low, least), max(high, most))


_MAKERS = {
    "add": _add_form, "sub": _sub_form, "mul": _mul_form, "max": _extreme_form, "min": _extreme_form,
    "less": _less_form, "equal": _equal_form, "neg": _neg_form, "clamp": _clamp_form, "shift": _shift_form,
    "where": _where_form,
}
