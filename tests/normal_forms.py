"""The normal forms of terms once more, as nested values without ids, for comparison. Points 501 and 502.

A form is a tuple (name, ..) of forms, numbers and frozensets; beside it stands its interval. Nothing here uses the
package. There is no pick: its form depends on which ids are less than others.
"""

from reference import limit

TOP = 2 ** 20000


class TooWideHere(Exception):
    pass


def number(n):
    return (("number", n), n, n)


def variable(key, low, high):
    return number(low) if low == high else (("variable", key), low, high)


def is_number(term):
    return term[0][0] == "number"


def corners(one, other):
    ends = [x * y for x in one for y in other]
    return min(ends), max(ends)


def units_of(term):
    """The number of a sum and a dict from units, with their intervals, to factors."""
    form = term[0]
    if form[0] == "number":
        return form[1], {}
    if form[0] == "sum":
        return form[1], dict(form[2])
    return 0, {term: 1}


def sum_of(c, factors):
    factors = {unit: factor for unit, factor in factors.items() if factor}
    if not factors:
        return number(c)
    if c == 0 and list(factors.values()) == [1]:
        return list(factors)[0]
    low = high = c
    for unit, factor in factors.items():
        least, most = sorted((factor * unit[1], factor * unit[2]))
        low, high = low + least, high + most
    return (("sum", c, frozenset(factors.items())), low, high)


def combined(one, other, sign):
    c, factors = units_of(one)
    more, further = units_of(other)
    for unit, factor in further.items():
        factors[unit] = factors.get(unit, 0) + sign * factor
    return sum_of(c + sign * more, factors)


def scaled(term, n):
    c, factors = units_of(term)
    return sum_of(n * c, {unit: n * factor for unit, factor in factors.items()})


def members_of(kind, term):
    return set(term[0][1]) if term[0][0] == kind else {term}


def extreme(kind, one, other):
    choose = max if kind == "max" else min
    members = members_of(kind, one) | members_of(kind, other)
    numbers = {term for term in members if is_number(term)}
    if numbers:
        members = members - numbers | {number(choose(term[1] for term in numbers))}
    if len(members) == 1:
        return list(members)[0]
    low = choose(term[1] for term in members)
    return ((kind, frozenset(members)), low, choose(term[2] for term in members))


def normal(kind, terms, info):
    a = terms[0]
    form, l, h = a
    b, p, q = (terms[1],) + terms[1][1:] if len(terms) > 1 else (None, 0, 0)
    if kind in ("add", "sub"):
        return combined(a, b, 1 if kind == "add" else -1)
    if kind == "neg":
        return scaled(a, -1)
    if kind == "mul":
        if is_number(a) or is_number(b):
            return scaled(b, l) if is_number(a) else scaled(a, p)
        return (("mul", frozenset((a, b))),) + corners((l, h), (p, q))
    if kind in ("max", "min"):
        return extreme(kind, a, b)
    if kind == "less":
        if h < p or l >= q or a == b:
            return number(int(h < p))
        return (("less", a, b), 0, 1)
    if kind == "equal":
        if a == b or h < p or q < l:
            return number(int(a == b))
        return (("equal", frozenset((a, b))), 0, 1)
    if kind == "clamp":
        low, high = info
        return a if low <= l and h <= high else (("clamp", a, info), limit(l, low, high), limit(h, low, high))
    if kind == "shift":
        half, n = 2 ** (info[0] - 1), 2 ** info[0]
        return (("shift", a, info), (l + half) // n, (h + half) // n)
    assert kind == "where"
    c = terms[2]
    if not l <= 0 <= h or b == c:
        return b
    if a == number(0):
        return c
    return (("where", a, b, c), min(p, c[1]), max(q, c[2]))


def made(kind, terms, info):
    """What make returns: the form with its interval."""
    form, low, high = normal(kind, terms, info)
    if low < -TOP or high > TOP:
        raise TooWideHere
    return number(low) if low == high else (form, low, high)
