"""Libraries of claims, and terms that are improved with claims."""

from notslower.claims import by_recursion, chained, in_context
from notslower.derivation import LIBRARY_STEPS, followed
from notslower.errors import BadClaim, BadEntry, BadStep
from notslower.improve import improving_steps


def earlier(claims, k):
    """Claim k of the claims of all earlier entries. Raises BadEntry."""
    if k < 0 or k >= len(claims):
        raise BadEntry(len(claims))
    return claims[k]


def claim_of(entry, claims):
    """The Claim that an entry leads to, from the claims of all earlier entries.

    Raises BadEntry, or the error that tells what does not hold in the entry.
    """
    word = entry[0]
    if word == "derived":
        return followed(entry[1], entry[2], claims, LIBRARY_STEPS)
    if word == "context":
        return in_context(entry[2], earlier(claims, entry[1]))
    if word == "chain":
        return chained(earlier(claims, entry[1]), earlier(claims, entry[2]))
    if word == "recursion":
        return by_recursion(entry[3], entry[4], earlier(claims, entry[1]), earlier(claims, entry[2]))
    raise BadEntry(len(claims))


def checked(entries):
    """The list of the Claims of a library. Raises BadEntry."""
    claims = []
    for entry in entries:
        try:
            claim = claim_of(entry, claims)
        except (BadStep, BadClaim):
            raise BadEntry(len(claims))
        claims.append(claim)
    return claims


def improved(term, claims):
    """The list of the steps that improve the term with a list of claims."""
    return improving_steps(term, claims)
