"""Names: where they are used and bound, and other names put in their place.

Nothing here calls itself, as in notslower.terms.
"""

from notslower.terms import captures, free_names, own_uses, parts, with_parts


def bound_at(term, place):
    """The tuple of the names that are bound, within the term, at a place that it has."""
    bound = ()
    for k in place:
        term, names = parts(term)[k]
        bound = bound + names
    return bound


def free_uses(term, name):
    """A list of the places of the free uses of the name: a place for each use that stands there."""
    found = []
    waiting = [((), term)]
    while waiting:
        place, part = waiting.pop()
        found.extend([place for use in own_uses(part) if use == name])
        for k, (inner, names) in enumerate(parts(part)):
            if name not in names:
                waiting.append((place + (k,), inner))
    return found


def any_free(names, terms):
    """True if one of the names is free in one of the terms, otherwise False."""
    return any([name in names for term in terms for name in free_names(term)])


def with_own_uses(term, table):
    """The term with the names that it uses itself changed as the dict tells."""
    word = term[0]
    if word == "var":
        return (word, table.get(term[1], term[1]))
    if word == "call":
        return (word, term[1], table.get(term[2], term[2]))
    if word == "make":
        return (word, term[1], tuple([table.get(name, name) for name in term[2]]))
    return term


def put_names(term, table):
    """The term with its free names changed, all at once, as the dict tells, or None if one captures."""
    if any([captures(term, name, other) for name, other in table.items()]):
        return None
    done = []
    waiting = [(term, table, False)]
    while waiting:
        part, left, is_ready = waiting.pop()
        inner = parts(part)
        if is_ready:
            # The parts were done one after the other, just before this.
            first = len(done) - len(inner)
            done[first:] = [with_parts(with_own_uses(part, left), done[first:])]
        else:
            waiting.append((part, left, True))
            for below, names in reversed(inner):
                still = {name: other for name, other in left.items() if name not in names}
                waiting.append((below, still, False))
    return done[0]
