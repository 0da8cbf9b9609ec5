"""Rules by their names, derivations and claims."""

from notslower.better_rules import BETTER_RULES
from notslower.errors import BadStep
from notslower.same_rules import SAME_RULES
from notslower.terms import is_same, part_at, put_at

# What the rules are told that are told something. A place is a tuple of indexes, too.
TOLD = {
    "rename": ("index", "name", "name"), "float-let": ("index",), "float-cost": ("index",),
    "order": ("indexes",), "copy": ("name", "indexes"), "unused": ("names",)}

# The words of the steps of derivations, and of those that entries of a library may have.
STEPS = ("go", "back", "claim")
LIBRARY_STEPS = ("go", "back", "claim", "undo")


class Claim:
    """That a last term is the same as a first one, or at least as good."""

    def __init__(self, first, last, kind):
        self.first = first
        self.last = last
        self.kind = kind

    def __eq__(self, other):
        return (isinstance(other, Claim) and self.kind == other.kind
                and is_same(self.first, other.first) and is_same(self.last, other.last))


def kind_of(name):
    """The kind of the rule with this name, or None if there is none."""
    if name in SAME_RULES:
        return "same"
    if name in BETTER_RULES:
        return "better"
    return None


def applied(name, term, given):
    """The term to which a rule changes a term, or None if it does not hold or there is no such rule."""
    if kind_of(name) is None or len(given) != len(TOLD.get(name, ())):
        return None
    if name in SAME_RULES:
        change = SAME_RULES[name]
    else:
        change = BETTER_RULES[name]
    return change(term, given)


def went_back(part, rule, given, other):
    """The other term, if a rule of the kind "same" changes it to the part, otherwise None."""
    if kind_of(rule) != "same":
        return None
    changed = applied(rule, other, given)
    if changed is None or not is_same(changed, part):
        return None
    return other


def claimed(part, k, claims):
    """The last term of claim k, if the part is its first term, otherwise None."""
    if k < 0 or k >= len(claims) or not is_same(claims[k].first, part):
        return None
    return claims[k].last


def undone(part, k, claims):
    """The first term of claim k, if the part is its last term and it is of the kind "same", otherwise None."""
    if k < 0 or k >= len(claims) or claims[k].kind != "same" or not is_same(claims[k].last, part):
        return None
    return claims[k].first


def changed_part(part, step, claims):
    """The term that a step puts in the place of a part, or None if the step does not hold."""
    if step[0] == "go":
        return applied(step[2], part, step[3])
    if step[0] == "back":
        return went_back(part, step[2], step[3], step[4])
    if step[0] == "claim":
        return claimed(part, step[2], claims)
    if step[0] == "undo":
        return undone(part, step[2], claims)
    return None


def kind_of_step(step, claims):
    """The kind of the rule or the claim of a step that holds."""
    if step[0] in ("claim", "undo"):
        return claims[step[2]].kind
    return kind_of(step[2])


def followed(first, steps, claims, allowed):
    """The Claim of a list of steps from a term, each one of the allowed steps. Raises BadStep."""
    last = first
    kind = "same"
    for k, step in enumerate(steps):
        part = part_at(last, step[1])
        if step[0] not in allowed or part is None:
            raise BadStep(k)
        other = changed_part(part, step, claims)
        if other is None:
            raise BadStep(k)
        last = put_at(last, step[1], other)
        if kind_of_step(step, claims) == "better":
            kind = "better"
    return Claim(first, last, kind)


def derive(first, steps, claims=()):
    """The Claim of a derivation. Raises BadStep."""
    return followed(first, steps, claims, STEPS)
