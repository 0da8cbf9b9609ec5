"""Points [13] and [14], and the interface of notslower.claims."""

import copy
import inspect
import unittest

from notslower import claims as module
from notslower.claims import by_recursion, chained, holds, in_context, refuted
from notslower.contexts import contexts, filled
from notslower.derivation import Claim
from notslower.errors import BadClaim, TermError
from notslower.machine import run
from notslower.text import read_term, term_text

from claim_texts import claim_of, texts_of, ticks

HOLE = ("hole",)
NO_CONTEXTS = ("1", "x", "let x 1 in x", "+ hole hole", "let x hole in hole", "ifzero hole hole hole")
KINDS = ("same", "better")
FOREVER = "let f fun a call f a in call f f"


class Refusals(unittest.TestCase):
    def refused(self, what, function, *told):
        with self.subTest(what=what, told=told):
            kept = copy.deepcopy(told)
            with self.assertRaises(BadClaim) as caught:
                function(*told)
            self.assertEqual(caught.exception.what, what)
            self.assertIs(type(caught.exception), BadClaim)
            self.assertEqual(told, kept)


class InContext(Refusals):
    def test_both_terms_are_put_into_the_context(self):
        rows = [
            ("hole", "f", "g", "f", "g"), ("+ hole 1", "f", "g", "+ f 1", "+ g 1"),
            ("let x 1 in hole", "x", "tick x", "let x 1 in x", "let x 1 in tick x"),
            ("fun x call hole x", "fun y x", "2", "fun x call fun y x x", "fun x call 2 x"),
            ("case 1 of A ( x ) hole of B ( ) x end", "f", "g",
             "case 1 of A ( x ) f of B ( ) x end", "case 1 of A ( x ) g of B ( ) x end"),
            ("tick waste hole", "hole", "1", "tick waste hole", "tick waste 1"),
            ("+ hole 1", "+ hole hole", "hole", "+ + hole hole 1", "+ hole 1")]
        for context, first, last, one, other in rows:
            for kind in KINDS:
                with self.subTest(context=context, kind=kind):
                    found = in_context(read_term(context), claim_of(first, last, kind))
                    self.assertIs(type(found), Claim)
                    self.assertEqual(texts_of(found), (one, other, kind))

    def test_what_is_no_context(self):
        for text in NO_CONTEXTS:
            for kind in KINDS:
                self.refused("context", in_context, read_term(text), claim_of("f", "g", kind))

    def test_deep(self):
        claim = Claim(ticks(3000, "x"), ticks(3001, "x"), "same")
        found = in_context(ticks(2000, "hole"), claim)
        self.assertTrue(found == Claim(ticks(5000, "x"), ticks(5001, "x"), "same"))
        with self.assertRaises(BadClaim):
            in_context(ticks(5000, "+ hole hole"), claim)
        with self.assertRaises(BadClaim):
            in_context(ticks(5000, "1"), claim)


class Chained(Refusals):
    def test_each_mixture_of_kinds(self):
        for one in KINDS:
            for other in KINDS:
                found = chained(claim_of("f", "tick g", one), claim_of("tick g", "h", other))
                self.assertIs(type(found), Claim)
                wanted = "same" if (one, other) == ("same", "same") else "better"
                self.assertEqual(texts_of(found), ("f", "h", wanted))

    def test_claims_that_do_not_fit(self):
        rows = [
            ("f", "g", "h", "i"), ("f", "g", "f", "g"), ("f", "tick g", "waste g", "h"),
            ("f", "fun x x", "fun y y", "h"), ("f", "+ 1 2", "+ 2 1", "h"), ("g", "f", "h", "g"),
            ("f", "let x 1 y 2 in x", "let y 2 x 1 in x", "h"), ("f", "make A ( )", "make A ( x )", "h")]
        for first, last, start, end in rows:
            for one in KINDS:
                for other in KINDS:
                    self.refused("second", chained, claim_of(first, last, one), claim_of(start, end, other))

    def test_a_claim_with_itself(self):
        claim = claim_of("f", "f", "same")
        self.assertEqual(chained(claim, claim), claim)
        self.refused("second", chained, claim_of("f", "g", "same"), claim_of("f", "g", "same"))

    def test_deep(self):
        one = Claim(read_term("f"), ticks(5000, "1"), "same")
        other = Claim(ticks(5000, "1"), read_term("g"), "better")
        self.assertEqual(texts_of(chained(one, other)), ("f", "g", "better"))
        with self.assertRaises(BadClaim):
            chained(one, Claim(ticks(5000, "2"), read_term("g"), "better"))
        with self.assertRaises(BadClaim):
            chained(one, Claim(ticks(5001, "1"), read_term("g"), "better"))


class ByRecursion(Refusals):
    def told(self, context, pairs, one, other, kinds=KINDS):
        """What `by_recursion` is told, from texts of the first and the last term of both claims."""
        return (read_term(context), pairs, claim_of(*one, kinds[0]), claim_of(*other, kinds[1]))

    def follows(self, context, pairs, one, other):
        for first in KINDS:
            for second in KINDS:
                with self.subTest(context=context, pairs=pairs, one=one, other=other, kinds=(first, second)):
                    found = by_recursion(*self.told(context, pairs, one, other, (first, second)))
                    self.assertIs(type(found), Claim)
                    self.assertEqual(texts_of(found), (one[0], other[1], "better"))

    def does_not(self, what, context, pairs, one, other):
        for first in KINDS:
            for second in KINDS:
                told = self.told(context, pairs, one, other, (first, second))
                self.refused(what, by_recursion, *told)

    def test_no_pairs(self):
        self.follows("hole", [], ("f", "tick f"), ("tick g", "g"))
        self.follows("+ hole 1", [], ("f", "tick + f 1"), ("tick + g 1", "g"))
        self.follows("let x 1 in hole", (), ("x", "tick let x 1 in x"), ("tick let x 1 in 2", "2"))
        self.follows("hole", [], ("tick f", "tick tick f"), ("tick waste f", "waste f"))

    def test_pairs(self):
        self.follows("hole", [("x", "y")], ("x", "tick y"), ("tick call 1 y", "call 1 x"))
        self.follows("hole", [("x", "y"), ("z", "y")], ("+ x z", "tick + y y"), ("tick - y y", "- z x"))
        self.follows("let b - y 1 in hole", [("y", "b")], ("call f y", "tick let b - y 1 in call f b"),
                     ("tick let b - y 1 in call g b", "call g y"))
        self.follows("hole", [("x", "x")], ("fun y x", "tick fun y x"), ("tick fun x x", "fun x x"))

    def test_names_that_are_exchanged(self):
        pairs = [("x", "y"), ("y", "x")]
        self.follows("hole", pairs, ("make A ( x y )", "tick make A ( y x )"),
                     ("tick + y call 1 x", "+ x call 1 y"))
        self.does_not("first", "hole", pairs, ("make A ( x y )", "tick make A ( x x )"), ("tick y", "x"))
        self.does_not("first", "hole", pairs, ("make A ( x y )", "tick make A ( y y )"), ("tick y", "x"))
        self.follows("hole", [("x", "y"), ("y", "z"), ("z", "x")], ("make A ( x y z u )", "tick make A ( y z x u )"),
                     ("tick make B ( y z x )", "make B ( x y z )"))

    def test_names_that_are_not_free(self):
        self.follows("hole", [("q", "z")], ("fun z x", "tick fun z x"), ("tick fun z z", "fun z z"))
        self.follows("hole", [("x", "y")], ("fun y fun x x", "tick fun y fun x x"),
                     ("tick let x 1 y x in x", "let x 1 y x in x"))
        self.follows("hole", [("x", "y")], ("+ x fun x x", "tick + y fun x x"), ("tick 1", "1"))

    def test_pairs_change_no_names_of_the_context(self):
        self.follows("+ x hole", [("x", "y")], ("x", "tick + x y"), ("tick + x 1", "1"))
        self.does_not("first", "+ x hole", [("x", "y")], ("x", "tick + y y"), ("tick + x 1", "1"))
        self.follows("fun x hole", [("x", "y")], ("x", "tick fun x y"), ("tick fun x 1", "1"))

    def test_the_context_may_bind_the_other_names(self):
        self.follows("let y 1 in hole", [("x", "y")], ("x", "tick let y 1 in y"), ("tick let y 1 in y", "x"))

    def test_where_something_captures_in_the_first_term(self):
        for text, pairs in (
                ("fun y x", [("x", "y")]), ("let y 1 in x", [("x", "y")]), ("fun y call 1 x", [("x", "y")]),
                ("case 1 of A ( y ) make A ( x ) end", [("x", "y")]), ("+ x fun y x", [("x", "y")]),
                ("fun y x", [("x", "y"), ("y", "z")]), ("fun z y", [("x", "y"), ("y", "z")]),
                ("let y x in 1", [("z", "u"), ("x", "y")])):
            for last in (text, "y", "fun y y", "let y 1 in y"):
                self.does_not("first", "hole", pairs, (text, f"tick {last}"), ("tick 1", "1"))
                self.does_not("first", "hole", pairs, (text, f"tick {last}"), ("tick fun y y", "fun y x"))

    def test_where_something_captures_in_the_last_term(self):
        for text, pairs in (
                ("fun y x", [("x", "y")]), ("let y 1 in x", [("x", "y")]), ("fun y call 1 x", [("x", "y")]),
                ("fun z y", [("x", "y"), ("y", "z")]), ("let y x in 1", [("z", "u"), ("x", "y")])):
            for first in (text, "y", "fun y y", "let y 1 in y"):
                self.does_not("second", "hole", pairs, ("1", "tick 1"), (f"tick {first}", text))

    def test_a_first_claim_with_another_last_term(self):
        for last in ("f", "+ f 1", "waste + f 1", "tick tick + f 1", "tick + f 2", "tick + 1 f", "tick + g 1",
                     "tick f", "tick + hole 1", "tick + x 1"):
            self.does_not("first", "+ hole 1", [("x", "y")], ("f", last), ("tick + g 1", "g"))

    def test_a_second_claim_with_another_first_term(self):
        for first in ("g", "+ g 1", "waste + g 1", "tick tick + g 1", "tick + g 2", "tick + 1 g", "tick + f 1",
                      "tick g", "tick + hole 1"):
            self.does_not("second", "+ hole 1", [("x", "y")], ("f", "tick + f 1"), (first, "g"))

    def test_the_pairs_are_for_both_claims(self):
        pairs = [("x", "y")]
        self.does_not("first", "hole", pairs, ("x", "tick x"), ("tick y", "x"))
        self.does_not("second", "hole", pairs, ("x", "tick y"), ("tick x", "x"))
        self.does_not("first", "hole", pairs, ("y", "tick x"), ("tick y", "x"))

    def test_what_does_not_fit_first_is_told(self):
        good, bad = ("f", "tick f"), ("f", "g")
        self.does_not("first", "hole", [], bad, bad)
        self.does_not("first", "hole", [], bad, ("tick g", "g"))
        self.does_not("second", "hole", [], good, bad)
        for context in NO_CONTEXTS:
            for one in (good, bad, ("fun y x", "tick fun y y")):
                for other in (("tick g", "g"), bad):
                    self.does_not("context", context, [("x", "y")], one, other)

    def test_a_context_that_would_do_if_all_its_holes_were_filled(self):
        self.does_not("context", "+ hole hole", [], ("f", "tick + f f"), ("tick + g g", "g"))
        self.does_not("context", "1", [], ("f", "tick 1"), ("tick 1", "g"))

    def test_a_name_that_becomes_two_other_ones(self):
        for pairs in ([("x", "y"), ("x", "z")], [("x", "z"), ("x", "y")], [("x", "y"), ("x", "y")]):
            self.does_not("first", "hole", pairs, ("x", "tick y"), ("tick y", "x"))
            self.does_not("context", "1", pairs, ("x", "tick y"), ("tick y", "x"))

    def test_terms_with_holes(self):
        self.follows("+ hole 1", [], ("hole", "tick + hole 1"), ("tick + - hole hole 1", "- hole hole"))
        self.follows("+ 1 hole", [("x", "y")], ("+ hole x", "tick + 1 + hole y"), ("tick + 1 2", "2"))

    def test_deep(self):
        one = Claim(ticks(3000, "x"), ticks(5001, "y"), "same")
        other = Claim(ticks(2002, "y"), ticks(1, "x"), "better")
        found = by_recursion(ticks(2000, "hole"), [("x", "y")], one, other)
        self.assertTrue(found == Claim(ticks(3000, "x"), ticks(1, "x"), "better"))
        for changed, what in ((Claim(one.first, ticks(5001, "x"), "same"), "first"),
                              (Claim(ticks(2999, "x"), one.last, "same"), "first")):
            with self.assertRaises(BadClaim) as caught:
                by_recursion(ticks(2000, "hole"), [("x", "y")], changed, other)
            self.assertEqual(caught.exception.what, what)
        with self.assertRaises(BadClaim) as caught:
            by_recursion(ticks(2000, "hole"), [("x", "y")], one, one)
        self.assertEqual(caught.exception.what, "second")


class Holds(unittest.TestCase):
    def told(self, first, last, most, same, better, context="hole"):
        """Whether the claim holds, for each of the kinds."""
        for kind, wanted in (("same", same), ("better", better)):
            with self.subTest(first=first, last=last, most=most, kind=kind, context=context):
                claim = claim_of(first, last, kind)
                self.assertIs(holds(claim, read_term(context), most), wanted)

    def test_equal_answers_with_other_steps(self):
        self.told("tick 1", "tick 1", 10, True, True)
        self.told("+ 0 1", "tick 1", 10, True, True)
        self.told("tick 1", "1", 10, False, True)
        self.told("tick tick 1", "- 2 1", 10, False, True)
        self.told("1", "tick 1", 10, False, False)
        self.told("- 2 1", "tick tick 1", 10, False, False)

    def test_equal_answers_with_other_cells(self):
        self.told("waste 1", "let x 2 in 1", 10, True, True)
        self.told("waste 1", "tick 1", 10, False, True)
        self.told("let x 1 y 2 in 3", "let x 1 in 3", 10, False, True)
        self.told("tick 1", "waste 1", 10, False, False)
        self.told("let x 1 in 3", "let x 1 y 2 in 3", 10, False, False)

    def test_fewer_of_one_and_more_of_the_other(self):
        self.told("tick tick 1", "waste 1", 10, False, False)
        self.told("waste 1", "tick tick 1", 10, False, False)
        self.told("waste tick 1", "1", 10, False, True)
        self.told("1", "waste tick 1", 10, False, False)

    def test_answers(self):
        self.told("tick 1", "2", 10, False, False)
        self.told("1", "2", 10, False, False)
        self.told("2", "1", 10, False, False)
        self.told("make A ( )", "make B ( )", 10, False, False)
        self.told("make A ( )", "make A ( x y )", 10, True, True)
        self.told("fun x x", "fun y 1", 10, True, True)
        self.told("make A ( )", "fun x x", 10, False, False)
        self.told("fun x x", "0", 10, False, False)

    def test_stuck(self):
        self.told("hole", "call 1 x", 10, True, True)
        self.told("tick hole", "hole", 10, True, True)
        self.told("hole", "waste hole", 10, True, True)
        self.told("hole", "1", 10, False, True)
        self.told("1", "hole", 10, False, False)
        self.told("tick 1", "/ 1 0", 10, False, False)

    def test_running(self):
        self.told(FOREVER, FOREVER, 10, True, True)
        self.told(FOREVER, "hole", 10, True, True)
        self.told("hole", FOREVER, 10, True, True)
        self.told(FOREVER, "1", 10, False, True)
        self.told("1", FOREVER, 10, False, False)

    def test_as_many_steps_as_are_needed_and_one_less(self):
        self.told("tick tick 1", "tick tick 1", 2, True, True)
        self.told("tick tick 1", "tick tick 1", 1, True, True)
        self.told("tick tick 1", "tick tick 2", 2, False, False)
        self.told("tick tick 1", "tick tick 2", 1, True, True)
        self.told("tick tick 1", "tick 1", 2, False, True)
        self.told("tick tick 1", "tick 1", 1, False, True)
        self.told("tick tick 1", "tick 1", 0, True, True)
        self.told("tick 1", "tick tick 1", 2, False, False)
        self.told("tick 1", "tick tick 1", 1, False, False)
        self.told("tick 1", "tick tick 1", 0, True, True)

    def test_no_steps(self):
        self.told("1", "1", 0, True, True)
        self.told("1", "2", 0, False, False)
        self.told("1", "tick 1", 0, False, False)
        self.told("tick 1", "1", 0, False, True)
        self.told("tick 1", "waste 2", 0, True, True)
        self.told("1", "hole", 0, False, False)
        self.told("hole", "1", 0, False, True)

    def test_the_context(self):
        self.told("tick 1", "1", 20, False, True, "let hh hole in + hh hh")
        self.told("tick 1", "2", 20, True, True, "let hh hole in 1")
        self.told("waste 1", "2", 20, True, True, "fun x hole")
        self.told("x", "tick x", 20, False, False, "let x 1 in hole")
        self.told("x", "2", 20, False, True, "let x 2 in hole")
        self.told("x", "2", 20, False, False, "let x 3 in hole")
        self.told("fun x x", "fun x 0", 20, False, False, "let y 1 in call hole y")
        self.told("fun x x", "fun x 0", 20, False, True, "let y 0 in call hole y")
        self.told("fun x 0", "fun x 0", 20, True, True, "let y 0 in call hole y")

    def test_names_that_the_context_does_not_bind(self):
        self.told("x", "x", 10, True, True)
        self.told("x", "1", 10, False, True)
        self.told("1", "x", 10, False, False)
        self.told("fun y x", "fun y y", 10, True, True)
        self.told("make A ( x )", "make A ( y )", 10, True, True)
        self.told("call fun y y x", "call fun y 1 x", 10, True, True)
        self.told("let y 1 in + y x", "x", 10, True, True, "let z 1 in hole")

    def test_deep(self):
        context = ticks(3000, "hole")
        for kind in KINDS:
            claim = Claim(ticks(5000, "1"), ticks(5000, "1"), kind)
            self.assertIs(holds(claim, context, 8000), True)
            self.assertIs(holds(claim, context, 7999), True)
            claim = Claim(ticks(5000, "1"), ticks(5001, "1"), kind)
            self.assertIs(holds(claim, context, 9000), False)
            self.assertIs(holds(claim, context, 7999), True)

    def test_it_is_what_the_outcomes_tell(self):
        texts = ("1", "tick 1", "tick tick 1", "waste 1", "waste tick 1", "2", "fun x x", "hole", "x", FOREVER)
        for first in texts:
            for last in texts:
                for most in range(5):
                    one, other = run(read_term(first), most), run(read_term(last), most)
                    same = one == other or "answer" not in (one.kind, other.kind)
                    better = one.kind != "answer" or (
                        other.kind == "answer" and one.answer == other.answer and one.steps >= other.steps
                        and one.cells >= other.cells)
                    self.told(first, last, most, same, better)


class Refuted(unittest.TestCase):
    def test_which_context_is_the_first(self):
        rows = [read_term(f"let x {held} in hole") for held in ("0", "0", "2", "fun y y", "2", "0")]
        claim = claim_of("x", "0", "better")
        self.assertEqual(refuted(claim, rows, 50), 2)
        self.assertEqual(refuted(claim, rows[3:], 50), 0)
        self.assertEqual(refuted(claim, rows[:3], 50), 2)
        self.assertEqual(refuted(claim, rows[1:3], 50), 1)
        self.assertIsNone(refuted(claim, rows[:2], 50))
        self.assertEqual(refuted(claim_of("x", "0", "same"), rows[:2], 50), 0)

    def test_no_contexts(self):
        self.assertIsNone(refuted(claim_of("1", "2", "same"), [], 50))
        self.assertIsNone(refuted(claim_of("1", "2", "better"), (), 50))

    def test_the_number_of_steps(self):
        rows = [read_term("tick tick hole"), read_term("tick hole"), read_term("hole")]
        claim = claim_of("1", "2", "better")
        self.assertEqual([refuted(claim, rows, most) for most in range(4)], [2, 1, 0, 0])
        self.assertIsNone(refuted(claim, rows[:1], 1))

    def test_the_contexts_of_the_program(self):
        rows = contexts(["x"], 8)
        self.assertIsNone(refuted(claim_of("tick x", "x", "better"), rows, 100))
        self.assertIsNone(refuted(claim_of("+ x 0", "x", "better"), rows, 100))
        found = refuted(claim_of("x", "+ x 0", "better"), rows, 100)
        self.assertEqual(term_text(rows[found]), "let x 0 in hole")
        found = refuted(claim_of("- x x", "0", "same"), rows, 100)
        self.assertEqual(term_text(rows[found]), "let x 0 in hole")
        found = refuted(claim_of("0", "* x 0", "same"), rows, 100)
        self.assertEqual(term_text(rows[found]), "let x 0 in hole")
        found = refuted(claim_of("ifzero x 0 0", "ifzero x 0 1", "same"), rows, 100)
        self.assertEqual(term_text(rows[found]), "let x 2 in hole")

    def test_the_list_stays_as_it_was(self):
        rows = [read_term("hole"), read_term("let x 1 in hole"), read_term("tick hole")]
        kept = copy.deepcopy(rows)
        claim = claim_of("x", "2", "same")
        self.assertEqual(refuted(claim, rows, 20), 0)
        self.assertEqual(refuted(claim_of("1", "1", "same"), rows, 20), None)
        self.assertEqual(rows, kept)
        self.assertEqual(claim, claim_of("x", "2", "same"))


class Interface(unittest.TestCase):
    def test_each_function_is_defined_in_the_file_that_lists_it(self):
        listed = {
            by_recursion: ["context", "pairs", "one", "other"], in_context: ["context", "claim"],
            chained: ["one", "other"], holds: ["claim", "context", "most"], refuted: ["claim", "rows", "most"]}
        for function, names in listed.items():
            self.assertEqual(function.__module__, "notslower.claims")
            self.assertIs(getattr(module, function.__name__), function)
            self.assertEqual(list(inspect.signature(function).parameters), names)

    def test_the_error(self):
        with self.assertRaises(TermError):
            in_context(read_term("1"), claim_of("1", "1", "same"))

    def test_nothing_that_is_passed_is_changed(self):
        context, pairs = read_term("let y 1 in hole"), [("x", "y"), ("y", "x")]
        one = Claim(read_term("x"), ("tick", filled(context, read_term("y"))), "same")
        other = Claim(("tick", filled(context, read_term("+ x y"))), read_term("+ y x"), "same")
        kept = copy.deepcopy((context, pairs, one, other))
        by_recursion(context, pairs, one, other)
        in_context(context, one)
        holds(one, context, 20)
        self.assertEqual((context, pairs, one, other), kept)
        with self.assertRaises(BadClaim):
            chained(one, other)
        with self.assertRaises(BadClaim):
            by_recursion(context, pairs, other, one)
        self.assertEqual((context, pairs, one, other), kept)


if __name__ == "__main__":
    unittest.main()
