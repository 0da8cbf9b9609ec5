"""A library that several tests use: a loop without a tick is at least as good as the same loop with one."""

from notslower.text import read_term

BODY = "ifzero a 0 let b - a 1 in call f b"
SLOW_FUNCTION = f"fun a tick {BODY}"
FAST_FUNCTION = f"fun a {BODY}"
REST = "ifzero y waste 0 let b - y 1 in hole"


def loop(function, name):
    """The text of a loop from the number of this name down to 0."""
    return f"let f {function} in call f {name}"


SLOW = loop(SLOW_FUNCTION, "y")
FAST = loop(FAST_FUNCTION, "y")


def rest(function):
    """The text of what is left of a loop when it was run once, but for ticks."""
    return REST.replace("hole", loop(function, "b"))


def once_around(function, costs):
    """The steps that run a loop once, to so many ticks of its rest."""
    out = (0,) * costs
    return (
        ("go", (), "copy", ("f", (1, 0))),
        ("go", (1,), "float-cost", (0,)),
        ("go", (1, 0), "beta", ()),
        *[("go", out[:k], "float-cost", (1,)) for k in range(costs)],
        ("go", out, "sink", ()),
        ("go", out + (1,), "spoil", ()),
        ("go", out + (2,), "join", ()),
        ("go", out + (2, 0), "order", ((1, 0),)),
        ("back", out + (2,), "join", (), read_term(f"let b - y 1 in {loop(function, 'b')}")))


LIBRARY = (
    ("derived", read_term(SLOW), once_around(SLOW_FUNCTION, 3)),
    ("derived", read_term(FAST), once_around(FAST_FUNCTION, 2)),
    ("derived", read_term(f"tick tick tick {rest(FAST_FUNCTION)}"), (("go", (), "untick", ()), ("undo", (), 1))),
    ("recursion", 0, 2, read_term(f"tick tick {REST}"), (("y", "b"),)),
    ("context", 3, read_term("let y 5 in hole")),
    ("derived", read_term(f"let y 5 in {FAST}"), (("go", (), "join", ()),)),
    ("chain", 4, 5))

# The first and the last term, and the kind, of the claim of each entry.
CLAIMS = (
    (SLOW, f"tick tick tick {rest(SLOW_FUNCTION)}", "same"),
    (FAST, f"tick tick {rest(FAST_FUNCTION)}", "same"),
    (f"tick tick tick {rest(FAST_FUNCTION)}", FAST, "better"),
    (SLOW, FAST, "better"),
    (f"let y 5 in {SLOW}", f"let y 5 in {FAST}", "better"),
    (f"let y 5 in {FAST}", f"tick let y 5 f {FAST_FUNCTION} in call f y", "same"),
    (f"let y 5 in {SLOW}", f"tick let y 5 f {FAST_FUNCTION} in call f y", "better"))
