"""Points [16] and [12], and the interface of notslower.improve."""

import copy
import inspect
import unittest

from notslower import improve as module
from notslower.contexts import filled
from notslower.derivation import derive
from notslower.improve import improve
from notslower.machine import run
from notslower.terms import places, put_at, size
from notslower.text import read_term, term_text

from claim_texts import ticks
from slow_improve import first_step, slow_steps
from small_terms import Maker

CHANGED = (
    "+ 1 2", "tick x", "ifzero 0 x y", "ifzero 1 tick 0 - 2 1", "call fun x + x y z", "call fun y fun z y u",
    "case make A ( y ) of A ( x ) x end", "case make B ( ) of A ( x ) x of B ( ) tick u end", "let x y in + x x",
    "let x tick y in + x 1", "let x 1 y z in + y y", "let x 1 y x in z")


def go(rule, *place):
    return ("go", place, rule, ())


def unused(name, *place):
    return ("go", place, "unused", ((name,),))


class Steps(unittest.TestCase):
    def improves(self, text, *wanted):
        """These are the first steps."""
        with self.subTest(text=text):
            steps = improve(read_term(text))
            self.assertIs(type(steps), list)
            self.assertEqual(steps[:len(wanted)], list(wanted))

    def becomes(self, text, last, *wanted):
        """These are all steps, and this is what they lead to."""
        with self.subTest(text=text):
            term = read_term(text)
            steps = improve(term)
            self.assertEqual(steps, list(wanted))
            claim = derive(term, steps)
            self.assertEqual(term_text(claim.last), last)

    def test_each_rule(self):
        self.becomes("tick x", "x", go("untick"))
        self.becomes("call fun x + x z y", "+ y z", go("beta"), go("untick"))
        self.becomes("case make A ( y ) of B ( ) 1 of A ( x ) x end", "y", go("choose"), go("untick"))
        self.becomes("ifzero 0 x y", "x", go("zero"), go("untick"))
        self.becomes("ifzero 7 x y", "y", go("zero"), go("untick"))
        self.becomes("- 1 2", "65535", go("reckon"), go("untick"))
        self.becomes("let x y in + x x", "+ y y", go("alias"))
        self.becomes("let x + y 1 in * x 2", "* + y 1 2", go("once"))
        self.becomes("let x 1 y 2 in + y y", "let y 2 in + y y", unused("x"))
        self.becomes("let x 1 in 2", "2", unused("x"))

    def test_where_nothing_holds(self):
        for text in (
                "x", "7", "hole", "make A ( x )", "fun x x", "call f x", "call fun x fun y x y", "waste 1",
                "case x of A ( ) 1 end", "case make A ( ) of B ( ) 1 of C ( x ) 2 end",
                "case make A ( x ) of A ( ) 1 of B ( x ) 2 end", "case make A ( y ) of A ( x ) fun y x end",
                "ifzero x 1 2", "/ 1 0", "+ x 1", "+ 1 x", "+ hole 1", "let x 1 in + x x", "let x 1 in fun y x",
                "let x 1 in call f x", "let x x in x", "let x 1 y 2 in + x y",
                "let x y y x in x", "let x y in fun y + x x", "let x + y 1 in fun y x", "let x y in fun y x"):
            self.becomes(text, text)

    def test_other_rules_are_not_used(self):
        for text in (
                "+ let x 1 in + x x 2", "let x 1 in let y 2 in + + x x + y y",
                "let x fun y y in + call x z call x z", "let x waste 1 in + x x", "+ waste 1 2",
                "ifzero ifzero x 1 2 3 4", "let x 1 in ifzero y + x x 2", "+ case x of A ( ) 1 end 2",
                "let a 1 in let x + a a in + x x", "let a 1 in waste + a a"):
            self.becomes(text, text)

    def test_two_that_hold_at_one_place(self):
        self.becomes("let x y in x", "y", go("alias"))
        self.becomes("let x y in 1", "1", go("alias"))
        self.improves("let x y in * 2 x", go("alias"))
        self.becomes("let x y in fun y fun z x", "let x y in fun y fun z x")
        self.becomes("let x + z 1 in 3", "3", unused("x"))

    def test_unused_takes_the_names_in_order_and_one_at_a_time(self):
        self.becomes("let x 1 y 2 z 3 in 4", "4", unused("x"), unused("y"), unused("z"))
        self.becomes("let z 1 y 2 x 3 in 4", "4", unused("z"), unused("y"), unused("x"))
        self.becomes("let x 1 y 2 z 3 in + y y", "let y 2 in + y y", unused("x"), unused("z"))
        self.becomes("let x z y x z 3 in 4", "4", unused("y"), unused("x"), unused("z"))
        self.becomes("let x y y z z 3 in 4", "4", unused("x"), unused("y"), unused("z"))
        self.becomes("let x y y x in 4", "let x y y x in 4")
        self.becomes("let x x in 4", "4", unused("x"))
        self.becomes("let x 1 y 2 in x", "1", unused("y"), go("once"))
        self.becomes("fun a let x 1 y 2 in a", "fun a a", unused("x", 0), unused("y", 0))

    def test_the_first_of_two_places(self):
        self.improves("+ tick 1 tick 2", go("untick", 0), go("untick", 1), go("reckon"), go("untick"))
        self.improves("tick tick 1", go("untick"), go("untick"))
        self.improves("tick + 1 2", go("untick"), go("reckon"), go("untick"))
        self.improves("+ x + 1 2", go("reckon", 1), go("untick", 1))
        self.improves("+ + x tick 2 tick 1", go("untick", 0, 1), go("untick", 1))
        self.improves("let x tick 1 y tick 2 in + + x x + y tick y", go("untick", 0), go("untick", 1),
                      go("untick", 2, 1, 1))
        self.improves("case tick x of A ( ) tick 1 of B ( ) + 1 2 end", go("untick", 0), go("untick", 1),
                      go("reckon", 2), go("untick", 2))
        self.improves("call fun x tick + 1 2 y", go("beta"), go("untick"), go("untick"), go("reckon"))
        self.improves("let x tick 1 in + 1 2", unused("x"), go("reckon"), go("untick"))
        self.improves("ifzero x + 1 2 let y z in y", go("reckon", 1), go("untick", 1), go("alias", 2))
        self.improves("fun a + tick a ifzero 0 1 2", go("untick", 0, 0), go("zero", 0, 1), go("untick", 0, 1))

    def test_a_step_may_make_one_hold_at_a_place_before_it(self):
        self.becomes("+ + 1 2 + 3 tick x", "+ 3 + 3 x", go("reckon", 0), go("untick", 0), go("untick", 1, 1))
        self.becomes("ifzero tick 0 tick x tick y", "x", go("untick", 0), go("zero"), go("untick"), go("untick"))
        self.becomes("call tick fun x tick + x 1 y", "+ y 1", go("untick", 0), go("beta"), go("untick"),
                     go("untick"))
        self.becomes("let x tick y in + x tick x", "+ y y", go("untick", 0), go("alias"), go("untick", 1))
        self.becomes("let x 1 in + + x ifzero 0 2 x tick x", "let x 1 in + + x 2 x",
                     go("zero", 1, 0, 1), go("untick", 1, 0, 1), go("untick", 1, 1))
        self.becomes("let x 1 in + ifzero 0 2 x tick x", "3", go("zero", 1, 0), go("once"),
                     go("untick", 0), go("untick", 1), go("reckon"), go("untick"))
        self.becomes("let x 1 in ifzero 0 tick 2 fun y x", "2", go("zero", 1), unused("x"), go("untick"),
                     go("untick"))
        self.becomes("tick let x 1 in case make A ( x ) of A ( y ) + y ifzero 1 y z end", "+ 1 z",
                     go("untick"), go("choose", 1), go("untick", 1), go("zero", 1, 1), go("once"), go("untick", 1))

    def test_improved_values_and_programs(self):
        self.becomes("let y 3 in call fun x + x x y", "let y 3 in + y y", go("beta", 1), go("untick", 1))
        self.becomes("let id fun x x y 7 in call id y", "let id fun x x y 7 in call id y")
        self.becomes("let f fun x x in call f y", "y", go("once"), go("beta"), go("untick"))


def with_changes(maker, term):
    """The term with a few parts that a rule changes, at any places."""
    for _ in range(maker.random.randrange(5)):
        term = put_at(term, maker.one(places(term)), read_term(maker.one(CHANGED)))
    return term


class Right(unittest.TestCase):
    def test_it_is_what_a_slower_way_finds(self):
        maker = Maker(16)
        rules = {}
        for k in range(600):
            term = with_changes(maker, maker.term(2 + k % 5))
            before = copy.deepcopy(term)
            steps = improve(term)
            self.assertEqual(steps, slow_steps(term), term)
            self.assertEqual(term, before)
            for step in steps:
                rules[step[2]] = rules.get(step[2], 0) + 1
        self.assertEqual(len(rules), 8)
        self.assertGreater(min(rules.values()), 30, rules)

    def test_each_step_holds_and_none_holds_behind_the_last_one(self):
        maker = Maker(17)
        for k in range(300):
            term = with_changes(maker, maker.term(3 + k % 4))
            steps = improve(term)
            claim = derive(term, steps)
            self.assertEqual(claim.first, term)
            self.assertIsNone(first_step(claim.last, ()))
            self.assertEqual(improve(claim.last), [])
            self.assertLessEqual(size(claim.last), size(term) - len(steps))

    def test_programs_keep_their_answer(self):
        maker = Maker(18)
        answers = 0
        fewer = 0
        for k in range(800):
            term = with_changes(maker, maker.term(3 + k % 4))
            last = derive(term, improve(term)).last
            for _ in range(4):
                binding = maker.binding()
                one, other = run(filled(binding, term), 200), run(filled(binding, last), 200)
                if one.kind == "answer":
                    answers += 1
                    fewer += other.steps < one.steps
                    found = (other.kind, other.answer, other.steps <= one.steps, other.cells <= one.cells)
                    self.assertEqual(found, ("answer", one.answer, True, True), (binding, term))
        self.assertGreater(answers, 1000)
        self.assertGreater(fewer, 200)

    def test_whole_programs_keep_their_answer(self):
        maker = Maker(19)
        answers = 0
        for k in range(500):
            term = filled(maker.binding(), with_changes(maker, maker.term(3 + k % 4)))
            steps = improve(term)
            last = derive(term, steps).last
            one, other = run(term, 200), run(last, 200)
            self.assertLessEqual(size(last), size(term))
            if one.kind == "answer":
                answers += 1
                found = (other.kind, other.answer, other.steps <= one.steps, other.cells <= one.cells)
                self.assertEqual(found, ("answer", one.answer, True, True), term)
        self.assertGreater(answers, 100)

    def test_deep_terms(self):
        self.assertEqual(improve(ticks(3000, "1")), [go("untick")] * 3000)
        term = ("waste", read_term("+ tick 1 tick 2"))
        for _ in range(2000):
            term = ("waste", term)
        inner = (0,) * 2001
        self.assertEqual(improve(term), [go("untick", *inner, 0), go("untick", *inner, 1), go("reckon", *inner),
                                         go("untick", *inner)])

    def test_many_places(self):
        term = read_term("1")
        for _ in range(9):
            term = ("+", term, term)
        steps = improve(term)
        self.assertEqual(len(steps), 2 * 511)
        self.assertEqual(derive(term, steps).last, ("number", 512))


class Interface(unittest.TestCase):
    def test_it_is_defined_in_the_file_that_lists_it(self):
        self.assertEqual(improve.__module__, "notslower.improve")
        self.assertIs(module.improve, improve)
        self.assertEqual(list(inspect.signature(improve).parameters), ["term"])

    def test_it_returns_a_new_list_of_steps(self):
        term = read_term("let x 1 in tick 2")
        steps = improve(term)
        self.assertEqual([type(step) for step in steps], [tuple, tuple])
        steps.clear()
        self.assertEqual(improve(term), [unused("x"), go("untick")])
        self.assertEqual(term, read_term("let x 1 in tick 2"))


if __name__ == "__main__":
    unittest.main()
