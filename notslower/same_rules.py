"""The rules of the kind "same".

Each function is one rule. It is passed a term and the tuple of as many things as the rule is told, and
returns the term to which the rule changes this one, or None if it does not hold.
"""

from notslower.machine import OPERATORS, VALUES, combine
from notslower.names import any_free, bound_at, put_names
from notslower.terms import bare_parts, part_at, parts, path_to, put_at, with_parts

MOST_PAIRS = 4
BRANCHES = ("case", "ifzero")
COSTS = ("tick", "waste")
HOLE = ("hole",)


def pair_names(term):
    """A list of the names of the pairs of a let."""
    return [pair[0] for pair in term[1]]


def pair_terms(term):
    """A list of the terms of the pairs of a let."""
    return [pair[1] for pair in term[1]]


def bound_names(term):
    """A list of the names that the term binds in any of its parts."""
    return [name for pair in parts(term) for name in pair[1]]


def is_in_front(term, k):
    """True if there is a part k of the term and it is in front, otherwise False."""
    if term[0] in OPERATORS:
        return k in (0, 1)
    return k == 0 and term[0] in ("call", "case", "ifzero", "tick", "waste")


def uses_outside(term, k, names):
    """True if one of the names is used by the term outside of its part k, otherwise False."""
    return any_free(names, [put_at(term, (k,), HOLE)])


def with_branches(term, others):
    """The case or ifzero with other terms for its rows, or in the places of A and B."""
    return with_parts(term, [term[1], *others])


def parts_with_same_names(term, index):
    """The indexes of the parts in which a function or a let binds, or the row of a case with an index."""
    if term[0] == "case" and 0 <= index < len(term[2]):
        return [index + 1]
    if term[0] in ("fun", "let"):
        return list(range(len(parts(term))))
    return []


def with_bound_name(term, index, name, other):
    """The term with another name where it binds a name, but with the parts that it has."""
    if term[0] == "fun":
        return ("fun", other, term[2])
    if term[0] == "let":
        pairs = [(other, pair[1]) if pair[0] == name else pair for pair in term[1]]
        return ("let", tuple(pairs), term[2])
    rows = list(term[2])
    constructor, names, part = rows[index]
    rows[index] = (constructor, tuple([other if old == name else old for old in names]), part)
    return ("case", term[1], tuple(rows))


def by_rename(term, given):
    """Another name for one that a function, a let or a row binds."""
    index, name, other = given
    chosen = parts_with_same_names(term, index)
    if not chosen:
        return None
    inner = bare_parts(term)
    names = parts(term)[chosen[0]][1]
    if name not in names or other in names or any_free([other], [inner[k] for k in chosen]):
        return None
    for k in chosen:
        inner[k] = put_names(inner[k], {name: other})
        if inner[k] is None:
            return None
    return with_parts(with_bound_name(term, index, name, other), inner)


def by_beta(term, _):
    """The call of a function that stands there."""
    if term[0] != "call" or term[1][0] != "fun":
        return None
    changed = put_names(term[1][2], {term[1][1]: term[2]})
    if changed is None:
        return None
    return ("tick", changed)


def by_choose(term, _):
    """A case of a construction that stands there."""
    if term[0] != "case" or term[1][0] != "make":
        return None
    for constructor, names, part in term[2]:
        if constructor == term[1][1] and len(names) == len(term[1][2]):
            changed = put_names(part, dict(zip(names, term[1][2])))
            if changed is None:
                return None
            return ("tick", changed)
    return None


def by_zero(term, _):
    """An ifzero of a number that stands there."""
    if term[0] != "ifzero" or term[1][0] != "number":
        return None
    return ("tick", term[2] if term[1][1] == 0 else term[3])


def by_reckon(term, _):
    """An operation on two numbers that stand there."""
    if term[0] not in OPERATORS or term[1][0] != "number" or term[2][0] != "number":
        return None
    result = combine(term[0], term[1][1], term[2][1])
    if result is None:
        return None
    return ("tick", ("number", result))


def by_float_let(term, given):
    """A let that is in front moves out."""
    k = given[0]
    if not is_in_front(term, k):
        return None
    inner = part_at(term, (k,))
    if inner[0] != "let" or uses_outside(term, k, pair_names(inner)):
        return None
    return ("let", inner[1], put_at(term, (k,), inner[2]))


def by_float_cost(term, given):
    """A tick or a waste that is in front, or the last part of a let, moves out."""
    k = given[0]
    is_last_of_let = term[0] == "let" and k == len(term[1])
    if not is_last_of_let and not is_in_front(term, k):
        return None
    inner = part_at(term, (k,))
    if inner[0] not in COSTS:
        return None
    return (inner[0], put_at(term, (k,), inner[1]))


def by_join(term, _):
    """One let from a let and the let that is its last part."""
    if term[0] != "let" or term[2][0] != "let":
        return None
    inner = term[2]
    names = pair_names(inner)
    pairs = term[1] + inner[1]
    if len(pairs) > MOST_PAIRS or any_free(names, pair_terms(term)):
        return None
    if any([name in names for name in pair_names(term)]):
        return None
    return ("tick", ("let", pairs, inner[2]))


def by_branch(term, _):
    """A case or ifzero that is the first part and in front moves out."""
    if not is_in_front(term, 0):
        return None
    inner = part_at(term, (0,))
    if inner[0] not in BRANCHES or uses_outside(term, 0, bound_names(inner)):
        return None
    return with_branches(inner, [put_at(term, (0,), part) for part in bare_parts(inner)[1:]])


def by_sink(term, _):
    """A let moves into the case or ifzero that is its last part."""
    if term[0] != "let" or term[2][0] not in BRANCHES:
        return None
    inner = term[2]
    names = pair_names(term)
    row_names = bound_names(inner)
    if any_free(names, [inner[1]]) or any_free(row_names, pair_terms(term)):
        return None
    if any([name in row_names for name in names]):
        return None
    return with_branches(inner, [("let", term[1], part) for part in bare_parts(inner)[1:]])


def by_order(term, given):
    """The pairs of a let in another order."""
    indexes = given[0]
    if term[0] != "let" or not isinstance(indexes, tuple) or sorted(indexes) != list(range(len(term[1]))):
        return None
    return ("let", tuple([term[1][k] for k in indexes]), term[2])


def by_copy(term, given):
    """The value of a name in the place of one of its uses."""
    name, place = given
    path = path_to(term, place)
    if term[0] != "let" or name not in pair_names(term) or path is None or path[-1] != ("var", name):
        return None
    index = pair_names(term).index(name)
    value = term[1][index][1]
    between = bound_at(path[1], place[1:])
    if place[0] == index or value[0] not in VALUES or name in between or any_free(between, [value]):
        return None
    return put_at(term, place, ("tick", value))


def by_spoil(term, _):
    """A waste instead of a let whose name is not needed."""
    if term[0] != "let" or len(term[1]) != 1 or any_free(pair_names(term), [term[2]]):
        return None
    return ("waste", term[2])


SAME_RULES = {
    "rename": by_rename, "beta": by_beta, "choose": by_choose, "zero": by_zero, "reckon": by_reckon,
    "float-let": by_float_let, "float-cost": by_float_cost, "join": by_join, "branch": by_branch,
    "sink": by_sink, "order": by_order, "copy": by_copy, "spoil": by_spoil}
