"""Points [9] and [15], and the interface of notslower.contexts."""

import copy
import itertools
import unittest

from notslower import contexts as module
from notslower.contexts import contexts, filled, holes
from notslower.machine import Outcome, run
from notslower.terms import free_names, part_at, size
from notslower.text import read_term, term_text

HOLE = ("hole",)
INNER = [
    "hole",
    "+ hole 1",
    "let hh hole in + hh hh",
    "let hh hole in 1",
    "let ff fun vv hole uu 1 in + call ff uu call ff uu",
    "let uu 1 in call hole uu",
    "case hole of A ( ) 1 of B ( uu vv ) + uu vv end",
    "ifzero hole 1 2"]
HELD = ["0", "2", "fun ww ww", "make A ( )"]


class Holes(unittest.TestCase):
    def test_none(self):
        for text in ("x", "1", "make A ( )", "let x 1 in x", "tick + 1 2"):
            self.assertEqual(holes(read_term(text)), [])

    def test_one(self):
        rows = [
            ("hole", ()), ("fun x hole", (0,)), ("call hole x", (0,)), ("let x hole in 1", (0,)),
            ("let x 1 y hole in 1", (1,)), ("let x 1 y 2 in hole", (2,)), ("case hole of A ( ) 1 end", (0,)),
            ("case 1 of A ( ) hole of B ( ) 2 end", (1,)), ("case 1 of A ( ) 1 of B ( ) tick hole end", (2, 0)),
            ("ifzero hole 1 2", (0,)), ("ifzero 1 hole 2", (1,)), ("ifzero 1 2 hole", (2,)), ("- hole 1", (0,)),
            ("- 1 hole", (1,)), ("tick hole", (0,)), ("waste waste hole", (0, 0))]
        for text, place in rows:
            with self.subTest(text=text):
                self.assertEqual(holes(read_term(text)), [place])

    def test_several_in_order(self):
        self.assertEqual(holes(read_term("+ hole hole")), [(0,), (1,)])
        self.assertEqual(holes(read_term("ifzero hole fun x hole let y hole in hole")),
                         [(0,), (1, 0), (2, 0), (2, 1)])
        self.assertEqual(holes(read_term("case + 1 hole of A ( ) hole of B ( ) + hole hole end")),
                         [(0, 1), (1,), (2, 0), (2, 1)])
        self.assertEqual(holes(read_term("+ - * hole hole hole hole")),
                         [(0, 0, 0), (0, 0, 1), (0, 1), (1,)])

    def test_it_is_a_new_list_of_tuples(self):
        term = read_term("+ hole hole")
        found = holes(term)
        self.assertIs(type(found), list)
        found.clear()
        self.assertEqual(len(holes(term)), 2)


class Filled(unittest.TestCase):
    def filled(self, context, term, wanted):
        before = copy.deepcopy((read_term(context), read_term(term)))
        one, other = read_term(context), read_term(term)
        self.assertEqual(term_text(filled(one, other)), wanted)
        self.assertEqual((one, other), before)

    def test_no_hole(self):
        self.filled("+ 1 x", "tick 2", "+ 1 x")

    def test_one_hole(self):
        self.filled("hole", "tick 2", "tick 2")
        self.filled("+ hole 1", "tick 2", "+ tick 2 1")
        self.filled("let x 1 y hole in fun z 3", "call x y", "let x 1 y call x y in fun z 3")
        self.filled("case x of A ( ) 1 of B ( y ) tick hole end", "y", "case x of A ( ) 1 of B ( y ) tick y end")

    def test_several_holes(self):
        self.filled("+ hole hole", "tick 2", "+ tick 2 tick 2")
        self.filled("ifzero hole fun x hole let y hole in hole", "x", "ifzero x fun x x let y x in x")

    def test_a_term_with_holes(self):
        self.filled("+ hole 1", "tick hole", "+ tick hole 1")
        self.filled("+ hole hole", "- hole 1", "+ - hole 1 - hole 1")
        self.filled("hole", "hole", "hole")
        self.filled("+ 1 2", "hole", "+ 1 2")

    def test_names_that_are_bound_at_the_hole_bind(self):
        self.filled("fun x hole", "x", "fun x x")
        self.filled("fun x hole", "fun x x", "fun x fun x x")
        self.filled("fun x fun y hole", "call x y", "fun x fun y call x y")
        self.filled("let x 1 y hole in + x hole", "+ x y", "let x 1 y + x y in + x + x y")
        self.filled("case hole of A ( x ) hole end", "x", "case x of A ( x ) x end")
        term = filled(read_term("let x 5 in call fun y hole x"), read_term("+ x y"))
        self.assertEqual(free_names(term), [])
        self.assertEqual(run(term, 9), Outcome("answer", ("number", 10), 5, 1))

    def test_deep_contexts(self):
        context = HOLE
        for _ in range(2000):
            context = ("+", ("number", 1), ("tick", context))
        self.assertEqual(holes(context), [(1, 0) * 2000])
        whole = filled(context, ("number", 7))
        self.assertEqual(part_at(whole, (1, 0) * 2000), ("number", 7))
        self.assertEqual(size(whole), 6001)


class Made(unittest.TestCase):
    def wanted(self, names, count):
        """The texts of the contexts, as point [15] tells them."""
        if not names:
            return INNER[:count]
        found = []
        for helds in itertools.product(HELD, repeat=len(names)):
            pairs = " ".join([name + " " + held for name, held in zip(names, helds)])
            found.extend(["let " + pairs + " in " + text for text in INNER[:count]])
        return found

    def test_all_of_them(self):
        for names in ([], ["x"], ["x", "y"], ["b", "a"], ["x", "y", "z"], ["d", "c", "b", "a"]):
            for count in range(9):
                with self.subTest(names=names, count=count):
                    found = contexts(names, count)
                    self.assertIs(type(found), list)
                    self.assertEqual(len(found), 4 ** len(names) * count)
                    self.assertEqual([term_text(context) for context in found], self.wanted(names, count))
                    self.assertEqual(found, [read_term(text) for text in self.wanted(names, count)])

    def test_the_order(self):
        found = [term_text(context) for context in contexts(["x", "y"], 2)]
        self.assertEqual(found[:5] + found[-1:], [
            "let x 0 y 0 in hole", "let x 0 y 0 in + hole 1", "let x 0 y 2 in hole", "let x 0 y 2 in + hole 1",
            "let x 0 y fun ww ww in hole", "let x make A ( ) y make A ( ) in + hole 1"])
        self.assertEqual(found[8], "let x 2 y 0 in hole")

    def test_without_names_there_is_no_let(self):
        self.assertEqual(contexts([], 1), [HOLE])
        self.assertEqual(contexts([], 0), [])
        self.assertEqual(contexts(["x"], 0), [])
        self.assertEqual(contexts([], 8)[3], read_term("let hh hole in 1"))

    def test_names_that_stand_in_the_terms(self):
        found = contexts(["uu", "ff"], 8)
        self.assertEqual(len(found), 128)
        self.assertEqual(term_text(found[5]), "let uu 0 ff 0 in let uu 1 in call hole uu")

    def test_each_has_one_hole_and_binds_the_names(self):
        for context in contexts(["x", "y", "z", "w"], 8):
            self.assertEqual(len(holes(context)), 1)
            self.assertEqual(free_names(filled(context, read_term("make A ( w z y x )"))), [])

    def test_a_program_in_each(self):
        answers = [run(filled(context, ("number", 0)), 99).answer for context in contexts([], 8)]
        self.assertEqual(answers, [("number", 0), ("number", 1), ("number", 0), ("number", 1), ("number", 0), None,
                                   None, ("number", 1)])


class Interface(unittest.TestCase):
    def test_each_function_is_defined_in_the_file_that_lists_it(self):
        for function in (holes, filled, contexts):
            self.assertEqual(function.__module__, "notslower.contexts")
            self.assertIs(getattr(module, function.__name__), function)

    def test_nothing_that_is_passed_is_changed(self):
        names = ["x", "y"]
        first = contexts(names, 3)
        self.assertEqual(names, ["x", "y"])
        first.clear()
        self.assertEqual(len(contexts(names, 3)), 48)
        self.assertEqual(contexts(("x", "y"), 3), contexts(names, 3))


if __name__ == "__main__":
    unittest.main()
