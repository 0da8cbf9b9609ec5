"""Contexts: their holes, how these are filled, and contexts for trying claims."""

from notslower.terms import parts_below, put_at
from notslower.text import read_term

CONTEXT_TEXTS = (
    "hole",
    "+ hole 1",
    "let hh hole in + hh hh",
    "let hh hole in 1",
    "let ff fun vv hole uu 1 in + call ff uu call ff uu",
    "let uu 1 in call hole uu",
    "case hole of A ( ) 1 of B ( uu vv ) + uu vv end",
    "ifzero hole 1 2")
VALUE_TEXTS = ("0", "2", "fun ww ww", "make A ( )")


def holes(term):
    """A list of the places of all holes of the term, in order."""
    found = []
    waiting = [((), term)]
    # Not all places are kept here: those of a deep term take much more room than the term.
    while waiting:
        place, part = waiting.pop()
        if part[0] == "hole":
            found.append(place)
        waiting.extend(parts_below(place, part, 0))
    return found


def filled(context, term):
    """The context with the term in the place of each hole."""
    whole = context
    for place in holes(context):
        whole = put_at(whole, place, term)
    return whole


def bindings(names):
    """A list of tuples of pairs: each way to bind the names to the values, in order."""
    values = [read_term(text) for text in VALUE_TEXTS]
    found = [()]
    for name in names:
        found = [pairs + ((name, value),) for pairs in found for value in values]
    return found


def contexts(names, count):
    """A list of the contexts that are made from a list of names and the first so many terms."""
    inner = [read_term(text) for text in CONTEXT_TEXTS[:count]]
    if not names:
        return inner
    return [("let", pairs, term) for pairs in bindings(names) for term in inner]
