"""The rules of the kind "better". Each function is one rule, as in notslower.same_rules."""

from notslower.names import any_free, bound_at, free_uses, put_names
from notslower.same_rules import pair_names, pair_terms
from notslower.terms import path_to, put_at


def is_single(term):
    """True if the term is a let with one pair, otherwise False."""
    return term[0] == "let" and len(term[1]) == 1


def by_unused(term, given):
    """A let without the pairs of names that are not needed."""
    names = given[0]
    if term[0] != "let" or not isinstance(names, tuple) or not names:
        return None
    if any([name not in pair_names(term) for name in names]):
        return None
    left = [pair for pair in term[1] if pair[0] not in names]
    if any_free(names, [term[2]] + [pair[1] for pair in left]):
        return None
    if not left:
        return term[2]
    return ("let", tuple(left), term[2])


def by_once(term, _):
    """The term of a name in the place of its only use."""
    if not is_single(term):
        return None
    name, held = term[1][0]
    uses = free_uses(term[2], name)
    if len(uses) != 1:
        return None
    words = [part[0] for part in path_to(term[2], uses[0])]
    bound = bound_at(term[2], uses[0])
    if words[-1] != "var" or "fun" in words or any_free(bound + (name,), [held]):
        return None
    return put_at(term[2], uses[0], held)


def by_alias(term, _):
    """A name in the place of one that stands for the same."""
    if not is_single(term):
        return None
    name, held = term[1][0]
    if held[0] != "var" or held[1] == name:
        return None
    return put_names(term[2], {name: held[1]})


def by_into(term, _):
    """A let moves into the term of the one name for which it is needed."""
    if term[0] != "let" or not is_single(term[2]):
        return None
    name, held = term[2][1][0]
    last = term[2][2]
    names = pair_names(term)
    if name in names or any_free([name], pair_terms(term)) or any_free(names, [last]):
        return None
    return ("let", ((name, ("let", term[1], held)),), last)


def by_untick(term, _):
    """A term without its tick."""
    if term[0] != "tick":
        return None
    return term[1]


def by_cheaper(term, _):
    """A tick instead of a waste."""
    if term[0] != "waste":
        return None
    return ("tick", term[1])


BETTER_RULES = {
    "unused": by_unused, "once": by_once, "alias": by_alias, "into": by_into, "untick": by_untick,
    "cheaper": by_cheaper}
