"""Claims that follow from other claims, and whether a claim holds in contexts, as far as runs tell."""

from notslower.contexts import filled, holes
from notslower.derivation import Claim
from notslower.errors import BadClaim
from notslower.machine import run
from notslower.names import put_names
from notslower.terms import is_same


def ask_for_context(term):
    """Raises BadClaim if the term is no context."""
    if len(holes(term)) != 1:
        raise BadClaim("context")


def is_once_around(context, pairs, term, other):
    """True if the other term is the tick of the context that is filled with the term under its other names."""
    table = dict(pairs)
    changed = put_names(term, table)
    # Without the first question, a name with two others would become the last one of these.
    if len(table) < len(pairs) or changed is None:
        return False
    return is_same(("tick", filled(context, changed)), other)


def by_recursion(context, pairs, one, other):
    """The Claim that two claims lead to by recursion. Raises BadClaim."""
    ask_for_context(context)
    if not is_once_around(context, pairs, one.first, one.last):
        raise BadClaim("first")
    if not is_once_around(context, pairs, other.last, other.first):
        raise BadClaim("second")
    return Claim(one.first, other.last, "better")


def in_context(context, claim):
    """The Claim with both terms of a claim in a context. Raises BadClaim."""
    ask_for_context(context)
    return Claim(filled(context, claim.first), filled(context, claim.last), claim.kind)


def chained(one, other):
    """The Claim that one claim and then the other one lead to. Raises BadClaim."""
    if not is_same(one.last, other.first):
        raise BadClaim("second")
    kind = "better" if "better" in (one.kind, other.kind) else "same"
    return Claim(one.first, other.last, kind)


def holds(claim, context, most):
    """True if the claim holds in the context, with runs of at most so many steps, otherwise False."""
    first = run(filled(context, claim.first), most)
    last = run(filled(context, claim.last), most)
    if claim.kind == "same":
        return "answer" not in (first.kind, last.kind) or first == last
    if first.kind != "answer":
        return True
    return first.answer == last.answer and last.steps <= first.steps and last.cells <= first.cells


def refuted(claim, rows, most):
    """The index of the first context of a list in which the claim does not hold, or None."""
    for k, context in enumerate(rows):
        if not holds(claim, context, most):
            return k
    return None
