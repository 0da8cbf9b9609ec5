"""Points [6], [7] and [8], and the interface of notslower.machine."""

import copy
import unittest

from notslower import machine
from notslower.machine import Outcome, combine, run
from notslower.text import read_term

from small_terms import Maker, second_run

ENOUGH = 1000000

# Programs that have an answer: the text, the answer, steps and cells.
ANSWERS = [
    # values
    ("7", ("number", 7), 0, 0),
    ("65535", ("number", 65535), 0, 0),
    ("fun x x", ("fun",), 0, 0),
    ("make A ( )", ("make", "A"), 0, 0),
    ("let x 1 in make AB ( x x )", ("make", "AB"), 1, 1),
    ("let x 1 in fun y x", ("fun",), 1, 1),
    # let
    ("let x 1 in 2", ("number", 2), 1, 1),
    ("let x 1 y 2 in 3", ("number", 3), 1, 2),
    ("let a 1 b 2 c 3 d 4 in 5", ("number", 5), 1, 4),
    ("let x 1 in let y 2 in 3", ("number", 3), 2, 2),
    ("let x / 1 0 y hole in 3", ("number", 3), 1, 2),
    # variable
    ("let x 5 in x", ("number", 5), 2, 1),
    ("let x tick 5 in x", ("number", 5), 3, 1),
    ("let x tick 1 in + x x", ("number", 2), 5, 1),
    ("let x waste tick 1 in + x + x x", ("number", 3), 8, 2),
    ("let a b b tick 7 in a", ("number", 7), 4, 2),
    ("let a b b c c tick 7 in + a + b c", ("number", 21), 9, 3),
    ("let a b b c c tick 7 in + a + a a", ("number", 21), 9, 3),
    ("let a b b fun x x in let n 3 in + call a n call b n", ("number", 6), 10, 3),
    # call
    ("let y 2 in call fun x 1 y", ("number", 1), 2, 1),
    ("let y 2 in call fun x x y", ("number", 2), 3, 1),
    ("let y tick tick 3 in call fun x + x x y", ("number", 6), 7, 1),
    ("let y hole in call fun x 1 y", ("number", 1), 2, 1),
    ("let y 4 in call call fun x fun x x y y", ("number", 4), 4, 1),
    ("let f fun x - x 1 y 4 in call f y", ("number", 3), 5, 2),
    ("let y 4 in call tick fun x 1 y", ("number", 1), 3, 1),
    # case
    ("case make A ( ) of A ( ) 3 end", ("number", 3), 1, 0),
    ("case tick make A ( ) of A ( ) 3 end", ("number", 3), 2, 0),
    ("case make B ( ) of A ( ) 3 of B ( ) 4 of C ( ) 5 end", ("number", 4), 1, 0),
    ("case make C ( ) of A ( ) hole of B ( x ) 4 of C ( ) waste 5 of D ( ) 6 end", ("number", 5), 2, 1),
    ("let u 3 v 4 in case make B ( u v ) of B ( a b ) - b a end", ("number", 1), 5, 2),
    ("let u 3 v 4 in case make B ( u v ) of B ( v u ) - u v end", ("number", 1), 5, 2),
    ("let u tick 3 in case make B ( u u ) of B ( v w ) + v w end", ("number", 6), 6, 1),
    ("let u 3 in case make B ( u u u u ) of A ( ) 1 of B ( a b c d ) + a d end", ("number", 6), 5, 1),
    ("let p let u 3 in make B ( u ) u 5 in case p of B ( x ) + x u end", ("number", 8), 7, 3),
    # ifzero
    ("ifzero 0 1 2", ("number", 1), 1, 0),
    ("ifzero 1 1 2", ("number", 2), 1, 0),
    ("ifzero 65535 1 2", ("number", 2), 1, 0),
    ("ifzero tick 0 tick 1 hole", ("number", 1), 3, 0),
    ("ifzero waste 3 hole waste 2", ("number", 2), 3, 2),
    ("let x 4 in ifzero 0 x hole", ("number", 4), 3, 1),
    # operation
    ("+ 1 2", ("number", 3), 1, 0),
    ("- 7 3", ("number", 4), 1, 0),
    ("- 3 7", ("number", 65532), 1, 0),
    ("* 256 256", ("number", 0), 1, 0),
    ("/ 7 2", ("number", 3), 1, 0),
    ("< 7 2", ("number", 0), 1, 0),
    ("= 7 7", ("number", 1), 1, 0),
    ("- tick 7 waste 3", ("number", 4), 3, 1),
    ("- - 9 4 - 3 1", ("number", 3), 3, 0),
    # tick and waste
    ("tick 4", ("number", 4), 1, 0),
    ("tick tick 4", ("number", 4), 2, 0),
    ("waste 4", ("number", 4), 1, 1),
    ("tick waste fun x hole", ("fun",), 2, 1),
    # names of a let in its own terms
    ("let x 1 in let x 2 y x in y", ("number", 2), 4, 3),
    ("let x y y 2 in x", ("number", 2), 3, 2),
    ("let even fun n ifzero n 1 let m - n 1 in call odd m odd fun n ifzero n 0 let m - n 1 in call even m k 5 "
     "in call even k", ("number", 0), 40, 8),
    ("let f fun n ifzero n 0 let m - n 1 in + n call f m k 3 in call f k", ("number", 6), 32, 5),
    ("let s make C ( s o ) o 1 in case s of C ( t p ) case t of C ( q r ) r end end", ("number", 1), 6, 2),
    # which binding counts
    ("let x 1 in let f fun y x in let x 2 in call f x", ("number", 1), 6, 3),
    ("let x 1 in let x 2 in x", ("number", 2), 3, 2),
    ("let x 1 y 2 in call fun x x y", ("number", 2), 3, 2),
    ("let x 1 y 2 in + call fun x x y x", ("number", 3), 5, 2),
    ("let x 1 y 2 in case make A ( y ) of A ( x ) x end", ("number", 2), 3, 2),
    ("let x 1 y 2 in + case make A ( y ) of A ( x ) x end x", ("number", 3), 5, 2),
    ("let x 1 in + let x 2 in x x", ("number", 3), 5, 2),
    ("let x let x 2 in x in x", ("number", 2), 4, 2),
    # what is not bound, and not needed
    ("ifzero 0 1 x", ("number", 1), 1, 0),
    ("let y x in 1", ("number", 1), 1, 1),
    ("let y x in call fun z 1 y", ("number", 1), 2, 1),
    ("fun y x", ("fun",), 0, 0),
    ("make A ( x )", ("make", "A"), 0, 0),
    ("case make A ( u ) of A ( x ) 1 end", ("number", 1), 1, 0),
    ("let v 4 in case make A ( u v ) of A ( x y ) y end", ("number", 4), 3, 1),
    ("let v 4 in case make A ( v u ) of A ( x y ) x end", ("number", 4), 3, 1),
    ("case make A ( u ) of A ( x ) case make B ( x ) of B ( y ) 3 end end", ("number", 3), 2, 0),
    ("let x 5 in case make A ( u ) of A ( x ) let x 6 in x end", ("number", 6), 4, 2),
    ("let x 5 in + case make A ( u ) of A ( x ) 1 end x", ("number", 6), 4, 1),
    ("let x hole in 1", ("number", 1), 1, 1),
    ("ifzero 1 hole 2", ("number", 2), 1, 0),
]

# Terms whose runs are stuck: the text, steps and cells.
STUCK = [
    # closed cells
    ("let x x in x", 2, 1),
    ("let x y y x in x", 3, 2),
    ("let x + 1 x in x", 2, 1),
    ("let x tick waste x in x", 4, 2),
    ("let x call fun y y x in x", 3, 1),
    ("let x 1 y + x y in y", 3, 2),
    # names that are not bound
    ("x", 0, 0),
    ("tick x", 1, 0),
    ("let y x in y", 2, 1),
    ("+ 1 x", 0, 0),
    ("call x y", 0, 0),
    ("call fun x 1 y", 0, 0),
    ("call tick fun x 1 y", 1, 0),
    ("call waste fun y 1 y", 1, 1),
    ("let x 1 in call fun z z y", 1, 1),
    ("case make A ( u ) of A ( x ) x end", 1, 0),
    ("let x 5 in case make A ( u ) of A ( x ) x end", 2, 1),
    ("let x 5 in case make A ( u ) of A ( x ) call fun y 1 x end", 2, 1),
    ("let x 5 y 6 in case make A ( y u ) of A ( y x ) + y x end", 3, 2),
    ("let x 5 in case make A ( u ) of A ( x ) case make B ( x ) of B ( y ) y end end", 3, 1),
    ("let x 5 in case make A ( u ) of A ( x ) let y x in y end", 4, 2),
    ("+ let x 1 in x x", 2, 1),
    # a hole
    ("hole", 0, 0),
    ("tick hole", 1, 0),
    ("let x hole in x", 2, 1),
    ("call hole x", 0, 0),
    ("+ hole 1", 0, 0),
    ("+ 1 hole", 0, 0),
    ("case hole of A ( ) 1 end", 0, 0),
    ("ifzero hole 1 1", 0, 0),
    # another kind of value for each kind of frame
    ("let x 1 in call 2 x", 1, 1),
    ("let x 1 in call make A ( x ) x", 1, 1),
    ("case 1 of A ( ) 1 end", 0, 0),
    ("case fun x x of A ( ) 1 end", 0, 0),
    ("ifzero fun x x 1 2", 0, 0),
    ("ifzero make A ( ) 1 2", 0, 0),
    ("+ fun x x 1", 0, 0),
    ("+ make A ( ) 1", 0, 0),
    ("+ tick 1 fun x x", 1, 0),
    ("+ waste 1 make A ( )", 1, 1),
    ("= make A ( ) make A ( )", 0, 0),
    # no such row
    ("case make C ( ) of A ( ) 1 of B ( ) 2 end", 0, 0),
    ("case make A ( ) of A ( x ) 1 end", 0, 0),
    ("case make A ( x ) of A ( ) 1 of B ( x ) 2 end", 0, 0),
    ("let u 1 in case make A ( u u ) of A ( x ) 1 of B ( x y ) 2 end", 1, 1),
    ("case tick make A ( ) of B ( ) 1 end", 1, 0),
    # division by 0
    ("/ 1 0", 0, 0),
    ("/ 0 0", 0, 0),
    ("waste let x 1 in / x 0", 3, 2),
    ("ifzero / 1 0 1 2", 0, 0),
]

NEVER_END = [
    "let f fun x call f x y 1 in call f y",
    "let f fun x tick call f x y 1 in call f y",
    "let f fun x let z x in call f z y 1 in + 1 call f y",
    "let f fun x + 1 call f x y 1 in call f y",
    "let w fun x call x x in call w w",
]


def nested(around, many, term):
    """The term with so many terms around it."""
    for _ in range(many):
        term = around(term)
    return term


class Runs(unittest.TestCase):
    def check(self, term, most, kind, answer, steps, cells):
        outcome = run(term, most)
        self.assertEqual([outcome.kind, outcome.answer, outcome.steps, outcome.cells], [kind, answer, steps, cells])

    def test_answers(self):
        for text, answer, steps, cells in ANSWERS:
            with self.subTest(text=text):
                self.check(read_term(text), ENOUGH, "answer", answer, steps, cells)

    def test_stuck_runs(self):
        for text, steps, cells in STUCK:
            with self.subTest(text=text):
                self.check(read_term(text), ENOUGH, "stuck", None, steps, cells)

    def test_as_many_allowed_steps_as_are_needed_are_enough(self):
        for text, answer, steps, cells in ANSWERS:
            with self.subTest(text=text):
                self.check(read_term(text), steps, "answer", answer, steps, cells)
        for text, steps, cells in STUCK:
            with self.subTest(text=text):
                self.check(read_term(text), steps, "stuck", None, steps, cells)

    def test_fewer_allowed_steps_are_not_enough(self):
        for text, steps in [row[:1] + row[-2:-1] for row in ANSWERS + STUCK]:
            for most in range(steps):
                with self.subTest(text=text, most=most):
                    self.check(read_term(text), most, "running", None, most, 0)

    def test_programs_that_never_end(self):
        for text in NEVER_END:
            for most in (0, 1, 2, 3, 10, 1001, 100000):
                with self.subTest(text=text, most=most):
                    self.check(read_term(text), most, "running", None, most, 0)

    def test_the_second_machine_comes_to_the_same(self):
        for text, _, steps, _ in ANSWERS:
            self.assertEqual(second_run(read_term(text), ENOUGH), run(read_term(text), ENOUGH))
        for text, _, _ in STUCK:
            self.assertEqual(second_run(read_term(text), ENOUGH), run(read_term(text), ENOUGH))

    def test_many_terms_run_as_on_the_second_machine(self):
        maker = Maker(6)
        kinds = {}
        for k in range(6000):
            term = maker.term(2 + k % 5)
            if k % 4:
                term = maker.binding()[:2] + (term,)
            for most in (0, 3, 60):
                outcome = run(term, most)
                self.assertEqual(outcome, second_run(term, most), term)
                kinds[outcome.kind] = kinds.get(outcome.kind, 0) + 1
        self.assertGreater(min([kinds[kind] for kind in ("answer", "stuck", "running")]), 20, kinds)

    def test_a_term_with_free_names_runs_until_one_is_needed(self):
        self.check(read_term("ifzero n tick 1 x"), ENOUGH, "stuck", None, 0, 0)
        self.check(read_term("ifzero 0 tick 1 x"), ENOUGH, "answer", ("number", 1), 2, 0)
        self.check(read_term("ifzero 1 tick 1 x"), ENOUGH, "stuck", None, 1, 0)


class DeepRuns(unittest.TestCase):
    def check(self, term, kind, answer, steps, cells):
        outcome = run(term, ENOUGH)
        self.assertEqual([outcome.kind, outcome.answer, outcome.steps, outcome.cells], [kind, answer, steps, cells])
        if steps:
            self.assertEqual(run(term, steps - 1), Outcome("running", None, steps - 1, 0))

    def test_deep_programs(self):
        one, deep = ("number", 1), 50000
        self.check(nested(lambda term: ("tick", term), deep, one), "answer", one, deep, 0)
        self.check(nested(lambda term: ("waste", term), deep, one), "answer", one, deep, deep)
        self.check(nested(lambda term: ("let", (("x", one),), term), deep, ("var", "x")), "answer", one, deep + 1, deep)
        self.check(nested(lambda term: ("fun", "x", term), deep, one), "answer", ("fun",), 0, 0)

    def test_many_frames(self):
        one, deep = ("number", 1), 50000
        self.check(nested(lambda term: ("+", term, one), deep, one), "answer", ("number", deep + 1), deep, 0)
        self.check(nested(lambda term: ("+", one, term), deep, one), "answer", ("number", deep + 1), deep, 0)
        self.check(nested(lambda term: ("ifzero", term, one, one), deep, one), "answer", one, deep, 0)
        rows = (("A", (), ("make", "A", ())),)
        self.check(nested(lambda term: ("case", term, rows), deep, rows[0][2]), "answer", ("make", "A"), deep, 0)
        self.check(nested(lambda term: ("call", term, "x"), deep, ("var", "x")), "stuck", None, 0, 0)
        many = nested(lambda term: ("let", (("x", term),), ("var", "x")), deep, one)
        self.check(many, "answer", one, 2 * deep, deep)

    def test_recursion_of_a_program(self):
        text = "let f fun n ifzero n 0 let m - n 1 in + 1 call f m k 20000 in call f k"
        self.check(read_term(text), "answer", ("number", 20000), 8 * 20000 + 5, 20002)

    def test_a_long_chain_of_cells(self):
        # The last of many numbers is needed first, and it needs all the others.
        text = "let f fun n ifzero n fun a a let m - n 1 in fun a let b + a 1 in call call f m b k 9000 z 0 in "
        outcome = run(read_term(text + "call call f k z"), ENOUGH)
        self.assertEqual([outcome.kind, outcome.answer], ["answer", ("number", 9000)])

    def test_many_different_names(self):
        letters = "abcdefghij"
        names = ["v" + a + b + c for a in letters for b in letters for c in letters]
        term = ("var", names[0])
        for k in reversed(range(len(names))):
            before = ("var", names[k - 1]) if k else ("number", 0)
            term = ("let", ((names[k], ("+", ("number", 1), before)),), term)
        self.check(term, "answer", ("number", 1), 1003 - 1, 1000)


class Operators(unittest.TestCase):
    def test_each_operator(self):
        rows = [
            ("+", 2, 3, 5), ("+", 65535, 1, 0), ("+", 65535, 65535, 65534), ("+", 0, 0, 0), ("+", 32768, 32767, 65535),
            ("-", 5, 3, 2), ("-", 3, 5, 65534), ("-", 0, 1, 65535), ("-", 0, 65535, 1), ("-", 4, 4, 0),
            ("*", 6, 7, 42), ("*", 256, 256, 0), ("*", 65535, 65535, 1), ("*", 257, 255, 65535), ("*", 0, 9, 0),
            ("/", 7, 2, 3), ("/", 6, 2, 3), ("/", 1, 2, 0), ("/", 0, 5, 0), ("/", 65535, 1, 65535), ("/", 9, 9, 1),
            ("/", 7, 0, None), ("/", 0, 0, None), ("/", 65535, 65534, 1),
            ("<", 2, 3, 1), ("<", 3, 2, 0), ("<", 3, 3, 0), ("<", 0, 65535, 1), ("<", 65535, 0, 0),
            ("=", 3, 3, 1), ("=", 3, 4, 0), ("=", 4, 3, 0), ("=", 0, 0, 1), ("=", 0, 65535, 0)]
        for sign, left, right, wanted in rows:
            with self.subTest(sign=sign, left=left, right=right):
                found = combine(sign, left, right)
                self.assertEqual(found, wanted)
                self.assertNotIsInstance(found, bool)
                outcome = run((sign, ("number", left), ("number", right)), 1)
                if wanted is None:
                    self.assertEqual(outcome, Outcome("stuck", None, 0, 0))
                else:
                    self.assertEqual(outcome, Outcome("answer", ("number", wanted), 1, 0))


class Interface(unittest.TestCase):
    def test_fields(self):
        outcome = Outcome("answer", ("make", "A"), 12, 3)
        self.assertEqual(outcome.kind, "answer")
        self.assertEqual(outcome.answer, ("make", "A"))
        self.assertEqual(outcome.steps, 12)
        self.assertEqual(outcome.cells, 3)
        self.assertIsNone(Outcome("stuck", None, 1, 0).answer)

    def test_equal_outcomes(self):
        fields = ("answer", ("number", 3), 5, 2)
        self.assertTrue(Outcome(*fields) == Outcome(*fields))
        self.assertFalse(Outcome(*fields) != Outcome(*fields))
        for k, other in enumerate(("stuck", ("number", 4), 6, 3)):
            changed = Outcome(*(fields[:k] + (other,) + fields[k + 1:]))
            self.assertFalse(Outcome(*fields) == changed, k)
            self.assertTrue(Outcome(*fields) != changed, k)
            self.assertTrue(changed != Outcome(*fields), k)
        self.assertTrue(Outcome("answer", ("number", 3), 5, 2) != Outcome("answer", None, 5, 2))
        self.assertTrue(Outcome("stuck", None, 5, 2) == Outcome("stuck", None, 5, 2))
        self.assertTrue(Outcome("stuck", None, 5, 2) != Outcome("stuck", None, 2, 5))

    def test_an_outcome_equals_nothing_else(self):
        for other in (None, 0, "answer", ("answer", ("number", 3), 5, 2), ["answer"], object()):
            self.assertFalse(Outcome("answer", ("number", 3), 5, 2) == other)
            self.assertTrue(Outcome("answer", ("number", 3), 5, 2) != other)

    def test_the_example(self):
        outcome = run(read_term("let id fun x x y 7 in call id y"), 100)
        self.assertEqual([outcome.kind, outcome.answer, outcome.steps, outcome.cells], ["answer", ("number", 7), 4, 2])
        self.assertIs(type(outcome), Outcome)
        self.assertIs(type(outcome.answer), tuple)

    def test_each_is_defined_in_the_file_that_lists_it(self):
        for thing in (Outcome, combine, run):
            self.assertEqual(thing.__module__, "notslower.machine")
            self.assertIs(getattr(machine, thing.__name__), thing)
        for method in ("__init__", "__eq__"):
            self.assertIn(method, vars(Outcome))

    def test_nothing_that_is_passed_is_changed_and_runs_repeat(self):
        for text in [row[0] for row in ANSWERS + STUCK]:
            term = read_term(text)
            before = copy.deepcopy(term)
            first = run(term, 50)
            self.assertEqual(term, before)
            self.assertEqual(run(term, 50), first)


if __name__ == "__main__":
    unittest.main()
