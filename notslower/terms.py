"""Terms: their parts and places, and the names in them.

Nothing here calls itself: terms may be deeper than those that are read, and no depth is too much.
"""


def parts(term):
    """A list of pairs: each part of the term, and the tuple of the names that the term binds in it."""
    word = term[0]
    if word in ("var", "number", "make", "hole"):
        return []
    if word == "fun":
        return [(term[2], (term[1],))]
    if word == "call":
        return [(term[1], ())]
    if word == "let":
        names = tuple([pair[0] for pair in term[1]])
        return [(pair[1], names) for pair in term[1]] + [(term[2], names)]
    if word == "case":
        return [(term[1], ())] + [(row[2], row[1]) for row in term[2]]
    return [(part, ()) for part in term[1:]]


def bare_parts(term):
    """A list of the parts of the term."""
    return [pair[0] for pair in parts(term)]


def with_parts(term, others):
    """The term with a list of as many other parts in the places of its parts."""
    word = term[0]
    if word in ("var", "number", "make", "hole"):
        return term
    if word == "fun":
        return (word, term[1], others[0])
    if word == "call":
        return (word, others[0], term[2])
    if word == "let":
        pairs = [(pair[0], other) for pair, other in zip(term[1], others)]
        return (word, tuple(pairs), others[-1])
    if word == "case":
        rows = [(row[0], row[1], other) for row, other in zip(term[2], others[1:])]
        return (word, others[0], tuple(rows))
    return (word, *others)


def is_same(term, other):
    """True if the two terms are equal, otherwise False: also if they are too deep for `==`."""
    waiting = [(term, other)]
    while waiting:
        one, beside = waiting.pop()
        if isinstance(one, tuple) and isinstance(beside, tuple):
            if len(one) != len(beside):
                return False
            # The words are compared first: most terms that differ have different ones.
            waiting.extend(list(zip(one, beside))[::-1])
        elif one != beside:
            return False
    return True


def own_uses(term):
    """The tuple of the names that the term uses itself, not in one of its parts."""
    word = term[0]
    if word == "var":
        return (term[1],)
    if word == "call":
        return (term[2],)
    if word == "make":
        return term[2]
    return ()


def free_names(term):
    """A list of the free names of the term, each once."""
    found = {}
    waiting = [(term, ())]
    while waiting:
        part, bound = waiting.pop()
        for name in own_uses(part):
            if name not in bound:
                found[name] = True
        for inner, names in parts(part):
            waiting.append((inner, bound + names))
    return list(found)


def captures(term, name, other):
    """True if putting the other name in the place of the free name captures, otherwise False."""
    waiting = [(term, False)]
    while waiting:
        part, other_is_bound = waiting.pop()
        if other_is_bound and name in own_uses(part):
            return True
        for inner, names in parts(part):
            if name not in names:
                waiting.append((inner, other_is_bound or other in names))
    return False


def levels(term):
    """A list of lists: the term, then its parts, then the parts of these, and so on."""
    found = []
    level = [term]
    while level:
        found.append(level)
        level = [inner for part in level for inner in bare_parts(part)]
    return found


def size(term):
    """The number of places of the term."""
    return sum([len(level) for level in levels(term)])


def depth(term):
    """The depth of the term: 1 without parts, and otherwise one more than its deepest part."""
    return len(levels(term))


def parts_below(place, part, low):
    """A list of pairs: the place of each part of the part at a place, from part `low` on, and this part.

    The last one stands first: a list from whose end the next one is taken is extended by it.
    """
    inner = bare_parts(part)
    return [(place + (k,), inner[k]) for k in reversed(range(low, len(inner)))]


def located(term):
    """A list of pairs: each place of the term, in order, and the part at it."""
    found = []
    waiting = [((), term)]
    while waiting:
        place, part = waiting.pop()
        found.append((place, part))
        waiting.extend(parts_below(place, part, 0))
    return found


def places(term):
    """A list of all places of the term, in order."""
    return [pair[0] for pair in located(term)]


def path_to(term, place):
    """A list of the terms on the way from the term to the part at the place, or None if there is none."""
    found = [term]
    for k in place:
        inner = bare_parts(found[-1])
        if k < 0 or k >= len(inner):
            return None
        found.append(inner[k])
    return found


def part_at(term, place):
    """The part of the term at the place, or None if there is no such place."""
    path = path_to(term, place)
    if path is None:
        return None
    return path[-1]


def put_at(term, place, other):
    """The term with another part at the place, or None if there is no such place."""
    path = path_to(term, place)
    if path is None:
        return None
    for k, above in reversed(list(zip(place, path))):
        others = bare_parts(above)
        others[k] = other
        other = with_parts(above, others)
    return other
