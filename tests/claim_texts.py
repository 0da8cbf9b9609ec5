"""Claims and deep terms from texts."""

from notslower.derivation import Claim
from notslower.text import read_term, term_text


def claim_of(first, last, kind):
    return Claim(read_term(first), read_term(last), kind)


def texts_of(claim):
    """The texts and the kind of a claim."""
    return (term_text(claim.first), term_text(claim.last), claim.kind)


def ticks(many, text):
    """So many ticks of what the text writes."""
    term = read_term(text)
    for _ in range(many):
        term = ("tick", term)
    return term
