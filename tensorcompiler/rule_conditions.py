"""The further conditions of the rules of rewriting, and the fields that the rules work out.

Each function is given the domains of all nodes and what the names of the rows stand for, a dict.
"""

from tensorcompiler.kinds import limit
from tensorcompiler.shapes import count_of, letters_of


def condition_holds(rule, domains, found):
    """Return True if the further condition of the rule holds, or if it has none."""
    if rule not in _CONDITIONS:
        return True
    condition = _CONDITIONS[rule]
    return condition(domains, found)


def further_fields(rule, domains, found):
    """Return a dict of the fields on the right side of the rule that are not on its left side."""
    if rule == "clamp-clamp":
        return {name: limit(found[end], found["c"], found["d"]) for name, end in (("low", "a"), ("high", "b"))}
    if rule == "less-known":
        shape = domains[found["n"]][0]
        datum = 1 if _lies_below(domains, found) else 0
        return {"shape": shape, "data": (datum,) * count_of(shape)}
    return {}


def _has(domains, node, letter):
    return letter in letters_of(domains[node][0])


def _all_zero(domains, found):
    return all([n == 0 for n in found["data"]])


def _all_one(domains, found):
    return all([n == 1 for n in found["data"]])


def _both_have(domains, found):
    return _has(domains, found["x"], found["k"]) and _has(domains, found["y"], found["k"])


def _first_lacks(domains, found):
    return not _has(domains, found["x"], found["k"])


def _ends_lack(domains, found):
    return _first_lacks(domains, found) and not _has(domains, found["z"], found["j"])


def _lies_within(domains, found):
    _, low, high = domains[found["x"]]
    return found["c"] <= low and high <= found["d"]


def _lies_below(domains, found):
    return domains[found["x"]][2] < domains[found["y"]][1]


def _lies_not_below(domains, found):
    return domains[found["x"]][1] >= domains[found["y"]][2]


def _is_known(domains, found):
    return _lies_below(domains, found) or _lies_not_below(domains, found)


def _is_whole(domains, found):
    sizes = dict(domains[found["x"]][0])
    return sizes[found["k"]] == found["count"]


_CONDITIONS = {
    "add-zero": _all_zero, "mul-one": _all_one, "sum-add": _both_have, "sum-dot": _both_have,
    "sum-mul": _first_lacks, "mul-sum": _first_lacks, "dot-left": _ends_lack, "dot-right": _ends_lack,
    "clamp-none": _lies_within, "max-left": _lies_not_below, "less-known": _is_known, "cut-pad": _is_whole,
}
