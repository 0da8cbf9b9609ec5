"""Programs and their runs by need.

Nothing here calls itself: programs and the frames of their runs may be as deep as they like.
"""

VALUES = ("number", "fun", "make")
OPERATORS = ("+", "-", "*", "/", "<", "=")
NUMBERS = 65536


class Outcome:
    """What a run comes to."""

    def __init__(self, kind, answer, steps, cells):
        self.kind = kind
        self.answer = answer
        self.steps = steps
        self.cells = cells

    def __eq__(self, other):
        return (isinstance(other, Outcome) and self.kind == other.kind and self.answer == other.answer
                and self.steps == other.steps and self.cells == other.cells)


def combine(sign, left, right):
    """The number that an operator gives for two numbers, or None if it gives none."""
    if sign == "+":
        return (left + right) % NUMBERS
    if sign == "-":
        return (left - right) % NUMBERS
    if sign == "*":
        return (left * right) % NUMBERS
    if sign == "<":
        return 1 if left < right else 0
    if sign == "=":
        return 1 if left == right else 0
    if sign == "/" and right != 0:
        return left // right
    return None


def cell_of(scope, name):
    """The index of the cell that a name stands for in a scope, or None if it is not bound there."""
    while scope:
        if scope[0] == name:
            return scope[1]
        scope = scope[2]
    return None


class Machine:
    """A term at the front with its scope, the frames behind it, and the cells.

    A scope is the empty tuple, or a name, the index of its cell and the scope around it. The index is
    None for a name that is not bound, but hides an outer one. A cell is a pair of a term and its scope,
    or None while it is closed. A frame is one of these:
    ("cell", index): a closed cell;
    ("first", term, scope): a term that waits for its first part;
    ("second", operator, number): an operation that waits for its second part.
    """

    def __init__(self, term):
        self.term = term
        self.scope = ()
        self.frames = []
        self.cells = []
        self.steps = 0
        self.wastes = 0

    def is_done(self):
        """True if the term at the front is the answer, otherwise False."""
        return self.term[0] in VALUES and not self.frames

    def cells_made(self):
        """The number of cells so far."""
        return len(self.cells) + self.wastes

    def go(self, term, scope, steps):
        """Puts a term at the front, in so many steps. This is how transitions end: it returns True."""
        self.term = term
        self.scope = scope
        self.steps += steps
        return True

    def move(self):
        """Makes the next transition and returns True, or returns False if the run is stuck."""
        word = self.term[0]
        if word in VALUES:
            return self.move_value()
        if word == "var":
            return self.move_variable()
        if word == "let":
            return self.move_let()
        if word == "hole":
            return False
        if word == "tick":
            return self.go(self.term[1], self.scope, 1)
        if word == "waste":
            self.wastes += 1
            return self.go(self.term[1], self.scope, 1)
        self.frames.append(("first", self.term, self.scope))
        return self.go(self.term[1], self.scope, 0)

    def move_let(self):
        """Makes the cells of the let at the front."""
        pairs = self.term[1]
        scope = self.scope
        for k, pair in enumerate(pairs):
            scope = (pair[0], len(self.cells) + k, scope)
        self.cells.extend([(pair[1], scope) for pair in pairs])
        return self.go(self.term[2], scope, 1)

    def move_variable(self):
        """Closes the cell of the variable at the front, whose term is needed."""
        index = cell_of(self.scope, self.term[1])
        if index is None or self.cells[index] is None:
            return False
        term, scope = self.cells[index]
        self.cells[index] = None
        self.frames.append(("cell", index))
        return self.go(term, scope, 1)

    def move_value(self):
        """Gives the value at the front to the last frame."""
        frame = self.frames.pop()
        if frame[0] == "cell":
            self.cells[frame[1]] = (self.term, self.scope)
            return True
        if frame[0] == "second":
            return self.move_second(frame[1], frame[2])
        return self.move_first(frame[1], frame[2])

    def move_first(self, term, scope):
        """Gives the value at the front to a term that waits for its first part."""
        kinds = (self.term[0], term[0])
        if kinds == ("fun", "call"):
            return self.move_function(cell_of(scope, term[2]))
        if kinds == ("make", "case"):
            return self.move_construction(term[2], scope)
        if kinds == ("number", "ifzero"):
            return self.go(term[2] if self.term[1] == 0 else term[3], scope, 1)
        if self.term[0] == "number" and term[0] in OPERATORS:
            self.frames.append(("second", term[0], self.term[1]))
            return self.go(term[2], scope, 0)
        return False

    def move_function(self, index):
        """Lets the function at the front have the cell with this index."""
        if index is None:
            return False
        return self.go(self.term[2], (self.term[1], index, self.scope), 1)

    def move_construction(self, rows, scope):
        """Puts the row for the construction at the front into its place."""
        for constructor, names, term in rows:
            if constructor == self.term[1] and len(names) == len(self.term[2]):
                for name, held in zip(names, self.term[2]):
                    scope = (name, cell_of(self.scope, held), scope)
                return self.go(term, scope, 1)
        return False

    def move_second(self, sign, left):
        """Combines a number with the value at the front."""
        if self.term[0] != "number":
            return False
        result = combine(sign, left, self.term[1])
        if result is None:
            return False
        return self.go(("number", result), (), 1)


def answer_of(value):
    """The answer that a run with this value at its end has."""
    if value[0] == "fun":
        return ("fun",)
    return (value[0], value[1])


def run(term, most):
    """The Outcome of a program that is allowed so many steps."""
    machine = Machine(term)
    # A run that has made one step too many is told without what the step did.
    while machine.steps <= most:
        if machine.is_done():
            return Outcome("answer", answer_of(machine.term), machine.steps, machine.cells_made())
        if not machine.move():
            return Outcome("stuck", None, machine.steps, machine.cells_made())
    return Outcome("running", None, most, 0)
