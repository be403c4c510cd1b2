"""Affine forms: pairs (base, terms) with pairs (variable, factor) as terms.

What is returned here is normal: variables ascend, and no factor is 0.
"""


def constant(n):
    """Return the form whose value is always n."""
    return (n, ())


def of_variable(variable):
    """Return the form whose value is that of the variable."""
    return (0, ((variable, 1),))


def plus(one, other):
    """Return the sum of two forms."""
    factors = {}
    for variable, factor in one[1] + other[1]:
        factors[variable] = factors.get(variable, 0) + factor
    return (one[0] + other[0], tuple(sorted([pair for pair in factors.items() if pair[1] != 0])))


def times(form, by):
    """Return the form times a number."""
    return plus((by * form[0], tuple([(variable, by * factor) for variable, factor in form[1]])), constant(0))


def minus(one, other):
    """Return the first form less the other one."""
    return plus(one, times(other, -1))


def shifted(form, n):
    """Return the form plus a number."""
    return plus(form, constant(n))


def with_replaced(form, variable, other):
    """Return the form with another form in the place of a variable."""
    total = constant(form[0])
    for one, factor in form[1]:
        total = plus(total, times(other if one == variable else of_variable(one), factor))
    return total
