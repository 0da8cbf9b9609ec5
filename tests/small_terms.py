"""What several tests need: made-up terms, and a second machine that runs terms in a simpler, slower way."""

import itertools
import random

from notslower.machine import Outcome, combine
from notslower.terms import places

NAMES = ("x", "y", "z", "u")
CONSTRUCTORS = ("A", "B")
OPERATORS = ("+", "-", "*", "/", "<", "=")
VALUES = ("number", "fun", "make")
FORMS = ("fun", "call", "call", "let", "let", "let", "case", "case", "ifzero", "operation", "tick", "waste", "make")


class Maker:
    """Makes terms, the same ones for the same seed."""

    def __init__(self, seed):
        self.random = random.Random(seed)

    def one(self, choices):
        return choices[self.random.randrange(len(choices))]

    def some(self, choices, least, most):
        """So many different ones of the choices."""
        left = list(choices)
        return tuple([left.pop(self.random.randrange(len(left))) for _ in range(self.random.randint(least, most))])

    def construction(self):
        names = tuple([self.one(NAMES) for _ in range(self.random.randint(0, 2))])
        return ("make", self.one(CONSTRUCTORS), names)

    def leaf(self):
        return self.one((("var", self.one(NAMES)), ("var", self.one(NAMES)), ("number", self.random.randint(0, 3)),
                         self.construction()))

    def term(self, deep):
        """A term of at most this depth."""
        if deep <= 1 or self.random.randrange(6) == 0:
            return self.leaf()
        word = self.one(FORMS)
        deep -= 1
        if word == "make":
            return self.construction()
        if word == "fun":
            return (word, self.one(NAMES), self.term(deep))
        if word == "call":
            return (word, self.term(deep), self.one(NAMES))
        if word == "let":
            names = self.some(NAMES, 1, self.one((1, 1, 2, 3)))
            return (word, tuple([(name, self.term(deep)) for name in names]), self.term(deep))
        if word == "case":
            rows = [(constructor, self.some(NAMES, 0, 2), self.term(deep))
                    for constructor in self.some(CONSTRUCTORS, 1, 2)]
            return (word, self.term(deep), tuple(rows))
        if word == "ifzero":
            return (word, self.term(deep), self.term(deep), self.term(deep))
        if word == "operation":
            return (self.one(OPERATORS), self.term(deep), self.term(deep))
        return (word, self.term(deep))

    def binding(self):
        """A let with a hole, which binds all names."""
        helds = [self.one((("number", 0), ("number", 2), ("fun", "w", ("var", "w")), ("make", "A", ()),
                           ("make", "B", ("x",)), ("fun", "w", self.term(2)), self.term(2))) for _ in NAMES]
        return ("let", tuple(zip(NAMES, helds)), ("hole",))


def cells_for(term, table):
    """The term with the names that the dict has changed to cells; no name of a cell is ever bound."""
    word = term[0]

    def changed(name):
        return table.get(name, name)

    def within(part, names):
        return cells_for(part, {name: cell for name, cell in table.items() if name not in names})

    if word == "var":
        return (word, changed(term[1]))
    if word in ("number", "hole"):
        return term
    if word == "make":
        return (word, term[1], tuple([changed(name) for name in term[2]]))
    if word == "fun":
        return (word, term[1], within(term[2], (term[1],)))
    if word == "call":
        return (word, within(term[1], ()), changed(term[2]))
    if word == "let":
        names = [name for name, _ in term[1]]
        return (word, tuple([(name, within(held, names)) for name, held in term[1]]), within(term[2], names))
    if word == "case":
        rows = [(constructor, names, within(part, names)) for constructor, names, part in term[2]]
        return (word, within(term[1], ()), tuple(rows))
    return (word, *[within(part, ()) for part in term[1:]])


class Stuck(Exception):
    pass


class Spent(Exception):
    pass


class SecondMachine:
    """Runs terms by putting cells, which are numbers, in the place of names: point [6] word by word."""

    def __init__(self, most):
        self.most = most
        self.steps = 0
        self.many = 0
        self.cells = {}

    def step(self, cells=0):
        self.steps += 1
        self.many += cells
        if self.steps > self.most:
            raise Spent

    def value(self, term):
        while True:
            word = term[0]
            if word in VALUES:
                return term
            if word == "hole":
                raise Stuck
            if word in ("tick", "waste"):
                self.step(1 if word == "waste" else 0)
                term = term[1]
            elif word == "let":
                first = self.many
                self.step(len(term[1]))
                table = {name: first + k for k, (name, _) in enumerate(term[1])}
                for name, held in term[1]:
                    self.cells[table[name]] = cells_for(held, table)
                term = cells_for(term[2], table)
            elif word == "var":
                return self.held(term[1])
            else:
                term = self.given(term, self.value(term[1]))

    def held(self, cell):
        if self.cells.get(cell) is None:
            raise Stuck
        self.step()
        term, self.cells[cell] = self.cells[cell], None
        self.cells[cell] = self.value(term)
        return self.cells[cell]

    def given(self, term, value):
        if term[0] == "call" and value[0] == "fun" and term[2] in self.cells:
            self.step()
            return cells_for(value[2], {value[1]: term[2]})
        if term[0] == "case" and value[0] == "make":
            for constructor, names, part in term[2]:
                if constructor == value[1] and len(names) == len(value[2]):
                    self.step()
                    # What is no cell becomes something that is neither a cell nor a name.
                    helds = [cell if cell in self.cells else -1 for cell in value[2]]
                    return cells_for(part, dict(zip(names, helds)))
        if term[0] == "ifzero" and value[0] == "number":
            self.step()
            return term[2] if value[1] == 0 else term[3]
        if term[0] in OPERATORS and value[0] == "number":
            second = self.value(term[2])
            if second[0] == "number" and combine(term[0], value[1], second[1]) is not None:
                self.step()
                return ("number", combine(term[0], value[1], second[1]))
        raise Stuck


def second_run(term, most):
    """What `run` has to come to, for runs with few frames."""
    machine = SecondMachine(most)
    try:
        value = machine.value(term)
    except Stuck:
        return Outcome("stuck", None, machine.steps, machine.many)
    except Spent:
        return Outcome("running", None, most, 0)
    return Outcome("answer", ("fun",) if value[0] == "fun" else value[:2], machine.steps, machine.many)


def things_told(rule, term):
    """Many tuples of things that a rule may be told for a term."""
    if rule == "rename":
        return [(k, x, y) for k in (0, 1) for x in NAMES for y in NAMES + ("q",)]
    if rule in ("float-let", "float-cost"):
        return [(k,) for k in range(4)]
    if rule == "order" and term[0] == "let":
        return [(indexes,) for indexes in itertools.permutations(range(len(term[1])))]
    if rule == "copy" and term[0] == "let":
        return [(x, place) for x in NAMES for place in places(term)]
    if rule == "unused":
        return [((x,),) for x in NAMES] + [(names,) for names in itertools.combinations(NAMES, 2)]
    return [()]
