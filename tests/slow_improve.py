"""Steps that improve a term, found in a slower way: point [16] and point [19] word by word."""

from notslower.derivation import applied, derive
from notslower.terms import part_at, places, size

RULES = ("untick", "beta", "choose", "zero", "reckon", "alias", "once")


def steps_at(place, part, claims):
    """All steps at the place, in the order in which they are tried."""
    steps = [("claim", place, k) for k, claim in enumerate(claims)
             if claim.first == part and size(claim.last) < size(claim.first)]
    steps += [("go", place, rule, ()) for rule in RULES]
    if part[0] == "let":
        steps += [("go", place, "unused", ((name,),)) for name, _ in part[1]]
    return [step for step in steps if step[0] == "claim" or applied(step[2], part, step[3]) is not None]


def first_step(term, claims):
    for place in places(term):
        for step in steps_at(place, part_at(term, place), claims):
            return step
    return None


def slow_steps(term, claims=()):
    """The list of the steps that improve the term with the claims."""
    steps = []
    step = first_step(term, claims)
    while step is not None:
        steps.append(step)
        term = derive(term, [step], claims).last
        step = first_step(term, claims)
    return steps
