"""Steps that improve a term."""

from notslower.derivation import changed_part
from notslower.same_rules import pair_names
from notslower.terms import parts_below, path_to, put_at, size

# The rules that are tried at a place, in this order; `unused` comes behind them.
RULES = ("untick", "beta", "choose", "zero", "reckon", "alias", "once")


def steps_to_try(place, part, chosen):
    """A list of the steps that are tried at the place of the part, in order, with the chosen claims."""
    steps = [("claim", place, k) for k in chosen] + [("go", place, rule, ()) for rule in RULES]
    if part[0] == "let":
        steps.extend([("go", place, "unused", ((name,),)) for name in pair_names(part)])
    return steps


def change_at(place, part, claims, chosen):
    """The first step that holds at the place of the part, and what becomes of the part, or None."""
    for step in steps_to_try(place, part, chosen):
        other = changed_part(part, step, claims)
        if other is not None:
            return (step, other)
    return None


def located_from(term, start):
    """Two lists of places with the parts at them: those around the place `start`, and those to go on with.

    The second list is taken from its end: this place, and then the ones behind it. Places within one of
    these are not in the list.
    """
    path = path_to(term, start)
    around = []
    later = []
    for k, index in enumerate(start):
        around.append((start[:k], path[k]))
        later.extend(parts_below(start[:k], path[k], index + 1))
    later.append((start, path[-1]))
    return around, later


def first_change(term, start, claims, chosen):
    """The first step of the term that holds and what becomes of the part at its place, or None.

    Only places around `start`, this place itself and places behind it are asked.
    """
    around, waiting = located_from(term, start)
    for place, part in around:
        change = change_at(place, part, claims, chosen)
        if change is not None:
            return change
    while waiting:
        place, part = waiting.pop()
        change = change_at(place, part, claims, chosen)
        if change is not None:
            return change
        waiting.extend(parts_below(place, part, 0))
    return None


def improving_steps(term, claims):
    """The list of the steps that improve the term with a list of claims."""
    chosen = [k for k, claim in enumerate(claims) if size(claim.last) < size(claim.first)]
    steps = []
    start = ()
    change = first_change(term, start, claims, chosen)
    while change is not None:
        step, other = change
        steps.append(step)
        # Of the places before this one only those around it have changed, and nothing held at the others.
        start = step[1]
        term = put_at(term, start, other)
        change = first_change(term, start, claims, chosen)
    return steps


def improve(term):
    """The list of the steps that improve the term."""
    return improving_steps(term, ())
