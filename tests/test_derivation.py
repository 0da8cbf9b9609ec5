"""Points [11] and [12], and the interface of notslower.derivation."""

import copy
import itertools
import unittest

from notslower import derivation
from notslower.contexts import filled
from notslower.derivation import Claim, applied, derive, kind_of
from notslower.errors import BadStep, TermError
from notslower.machine import run
from notslower.terms import free_names, part_at, places, put_at
from notslower.text import read_term, term_text

from claim_texts import claim_of, ticks
from small_terms import Maker, things_told

SAME = ("rename", "beta", "choose", "zero", "reckon", "float-let", "float-cost", "join", "branch", "sink", "order",
        "copy", "spoil")
BETTER = ("unused", "once", "alias", "into", "untick", "cheaper")
NO_RULES = ("", "none", "float", "float-", "floatlet", "float_let", "Beta", "BETA", " beta", "beta ", "let", "same",
            "better", "go", "back", "claim", "undo")


class Rules(unittest.TestCase):
    def test_the_kind_of_each_rule(self):
        for name in SAME:
            self.assertEqual(kind_of(name), "same")
        for name in BETTER:
            self.assertEqual(kind_of(name), "better")

    def test_names_that_are_no_rules(self):
        for name in NO_RULES:
            self.assertIsNone(kind_of(name))
            for text in ("tick 1", "call fun x x y", "let x 1 in 2", "ifzero 0 1 2"):
                for given in ((), (0,), (0, 0)):
                    self.assertIsNone(applied(name, read_term(text), given))

    def test_the_example(self):
        found = applied("beta", read_term("call fun x + x z y"), ())
        self.assertEqual(term_text(found), "tick + y z")

    def test_no_rule_changes_what_it_is_passed(self):
        maker = Maker(3)
        for _ in range(150):
            term = maker.term(4)
            before = copy.deepcopy(term)
            for rule in SAME + BETTER:
                for given in things_told(rule, term):
                    kept = copy.deepcopy(given)
                    applied(rule, term, given)
                    self.assertEqual((term, given), (before, kept))

    def test_deep_terms(self):
        deep = ("var", "x")
        for _ in range(3000):
            deep = ("tick", ("fun", "y", deep))
        for rule in SAME + BETTER:
            for term in (("let", (("x", ("number", 1)),), deep), ("call", ("fun", "x", deep), "z"), deep):
                for given in ((), (0,), (0, "x", "q"), ("x", (1,)), (("x",),), ((0,),)):
                    applied(rule, term, given)
        changed = derive(("call", ("fun", "x", deep), "z"), [("go", (), "beta", ())]).last
        self.assertEqual(part_at(changed, (0,) * 6001), ("var", "z"))
        steps = [("back", (0,) * 6001, "untick", (), deep)]
        with self.assertRaises(BadStep):
            derive(deep, steps)
        other = derive(deep, [("back", (), "beta", (), ("call", ("fun", "x", deep[1]), "x"))]).last
        self.assertEqual(other[0], "call")
        claim = derive(deep, [("claim", (), 0)], [Claim(put_at(deep, (), deep), ("number", 1), "same")])
        self.assertEqual(claim.last, ("number", 1))


class Steps(unittest.TestCase):
    def derived(self, text, steps, last, kind, claims=()):
        term = read_term(text)
        claim = derive(term, steps, claims)
        self.assertIs(type(claim), Claim)
        self.assertEqual(claim.first, term)
        self.assertEqual(term_text(claim.last), last)
        self.assertEqual(claim.kind, kind)

    def refused(self, text, steps, at, claims=()):
        with self.subTest(text=text, steps=steps):
            with self.assertRaises(BadStep) as caught:
                derive(read_term(text), steps, claims)
            self.assertEqual(caught.exception.at, at)
            self.assertIs(type(caught.exception), BadStep)

    def test_no_steps(self):
        for text in ("x", "hole", "let x 1 in x", "tick tick 1"):
            self.derived(text, [], text, "same")
            self.derived(text, (), text, "same")
            self.derived(text, [], text, "same", [claim_of(text, "1", "better")])

    def test_go(self):
        self.derived("tick 1", [("go", (), "untick", ())], "1", "better")
        self.derived("+ 1 tick 2", [("go", (1,), "untick", ())], "+ 1 2", "better")
        self.derived("fun y call fun x x y", [("go", (0,), "beta", ())], "fun y tick y", "same")
        self.derived("let x 1 y 2 in ifzero + 1 2 x y", [("go", (2, 0), "reckon", ())],
                     "let x 1 y 2 in ifzero tick 3 x y", "same")
        self.derived("fun x x", [("go", (), "rename", (0, "x", "y"))], "fun y y", "same")

    def test_go_where_it_does_not_hold(self):
        self.refused("tick 1", [("go", (0,), "untick", ())], 0)
        self.refused("tick 1", [("go", (), "cheaper", ())], 0)
        self.refused("tick 1", [("go", (), "untick", (0,))], 0)
        for name in NO_RULES:
            self.refused("tick 1", [("go", (), name, ())], 0)

    def test_places_that_there_are_not(self):
        for place in ((1,), (-1,), (0, 0), (2, 0), (0, -1), (-1, 0)):
            self.refused("tick tick 1" if len(place) == 1 else "tick 1", [("go", place, "untick", ())], 0)
            self.refused("tick 1", [("back", place, "beta", (), read_term("call fun x 1 y"))], 0)
            self.refused("tick 1", [("claim", place, 0)], 0, [claim_of("1", "2", "same")])

    def test_back(self):
        given = read_term("call fun x x y")
        self.derived("tick y", [("back", (), "beta", (), given)], "call fun x x y", "same")
        self.derived("+ tick y tick y", [("back", (1,), "beta", (), given)], "+ tick y call fun x x y", "same")
        self.derived("tick 3", [("back", (), "reckon", (), read_term("- 5 2"))], "- 5 2", "same")
        self.derived("waste 1", [("back", (), "spoil", (), read_term("let x 7 in 1"))], "let x 7 in 1", "same")
        self.derived("let y 2 x 1 in 3", [("back", (), "order", ((1, 0),), read_term("let x 1 y 2 in 3"))],
                     "let x 1 y 2 in 3", "same")

    def test_back_by_a_rule_that_is_better(self):
        self.refused("1", [("back", (), "untick", (), read_term("tick 1"))], 0)
        self.refused("tick 1", [("back", (), "cheaper", (), read_term("waste 1"))], 0)
        self.refused("1", [("back", (), "unused", (("x",),), read_term("let x 2 in 1"))], 0)
        self.refused("1", [("back", (), "once", (), read_term("let x 1 in x"))], 0)
        self.refused("y", [("back", (), "alias", (), read_term("let x y in x"))], 0)
        self.refused("let x let y 1 in y in x", [("back", (), "into", (), read_term("let y 1 in let x y in x"))], 0)

    def test_back_to_what_the_rule_does_not_change_to_the_part(self):
        given = read_term("call fun x x y")
        self.refused("tick z", [("back", (), "beta", (), given)], 0)
        self.refused("tick tick y", [("back", (), "beta", (), given)], 0)
        self.refused("waste y", [("back", (), "beta", (), given)], 0)
        self.refused("y", [("back", (), "beta", (), given)], 0)
        self.refused("tick tick y", [("back", (0, 0), "beta", (), given)], 0)
        self.refused("call fun x x y", [("back", (), "beta", (), read_term("tick y"))], 0)
        other = read_term("call fun x fun a make A ( c ) y")
        self.refused("tick fun a make A ( b )", [("back", (), "beta", (), other)], 0)
        self.refused("tick y", [("back", (), "beta", (0,), given)], 0)
        for name in NO_RULES:
            self.refused("tick y", [("back", (), name, (), given)], 0)

    def test_claims(self):
        claims = [claim_of("f", "g", "same"), claim_of("g", "tick h", "better"), claim_of("f", "h", "better")]
        self.derived("f", [("claim", (), 0)], "g", "same", claims)
        self.derived("f", [("claim", (), 2)], "h", "better", claims)
        self.derived("+ f g", [("claim", (1,), 1)], "+ f tick h", "better", claims)
        self.derived("+ f f", [("claim", (0,), 0), ("claim", (1,), 0)], "+ g g", "same", claims)
        self.derived("f", [("claim", (), 0), ("claim", (), 1)], "tick h", "better", claims)
        self.derived("fun f f", [("claim", (0,), 0)], "fun f g", "same", claims)
        self.derived("f", [("claim", (), 0)], "g", "same", tuple(claims))

    def test_numbers_of_claims_that_there_are_not(self):
        claims = [claim_of("f", "g", "same"), claim_of("f", "h", "same")]
        for k in (2, 3, 99, -1, -2, -3):
            self.refused("f", [("claim", (), k)], 0, claims)
        for k in (-1, 0, 1):
            self.refused("f", [("claim", (), k)], 0)
            self.refused("f", [("claim", (), k)], 0, [])

    def test_a_claim_whose_first_term_is_not_the_part(self):
        for first, text in (
                ("f", "g"), ("f", "tick f"), ("f", "fun f f"), ("fun x x", "fun y y"),
                ("make A ( y x )", "make A ( x y )"), ("call f y", "call f x"), ("+ 1 3", "+ 1 2"),
                ("let y 2 x 1 in x", "let x 1 y 2 in x"), ("case 1 of A ( y ) 2 end", "case 1 of A ( x ) 2 end"),
                ("case 1 of B ( ) 2 end", "case 1 of A ( ) 2 end"), ("make A ( )", "make B ( )"),
                ("ifzero 1 2 3", "ifzero 1 2 4"), ("tick 1", "waste 1"), ("+ 1 2", "- 1 2")):
            self.refused(text, [("claim", (), 0)], 0, [claim_of(first, "1", "same")])
            self.derived(first, [("claim", (), 0)], "1", "same", [claim_of(first, "1", "same")])
        self.refused("+ 1 2", [("claim", (), 0)], 0, [claim_of("- 1 2", "1", "same"), claim_of("+ 1 2", "1", "same")])

    def test_a_step_of_another_form(self):
        for word in ("", "stay", "undo", "rename", "Go"):
            self.refused("f", [(word, (), 0)], 0, [claim_of("g", "f", "same")])

    def test_each_step_goes_on_from_the_one_before(self):
        steps = [
            ("go", (0,), "reckon", ()), ("go", (), "float-cost", (0,)), ("go", (0,), "zero", ()),
            ("back", (), "float-cost", (0,), read_term("tick tick 5"))]
        self.derived("ifzero - 2 2 5 x", steps, "tick tick 5", "same")
        steps = steps + [("go", (0,), "untick", ()), ("claim", (0,), 0)]
        self.derived("ifzero - 2 2 5 x", steps, "tick 7", "better", [claim_of("5", "7", "same")])

    def test_the_first_step_that_does_not_hold(self):
        good = ("go", (), "float-cost", (0,))
        bad = ("go", (), "beta", ())
        self.refused("tick tick 1", [bad], 0)
        self.refused("tick tick 1", [bad, good, good], 0)
        self.refused("tick tick 1", [good, bad, good], 1)
        self.refused("tick tick 1", [good, good, bad], 2)
        self.refused("tick tick 1", [good, bad, good, bad, bad], 1)
        self.refused("tick tick 1", [good, ("go", (5,), "untick", ()), bad], 1)
        self.refused("tick tick 1", [good] * 50 + [("claim", (), 0)], 50)
        self.refused("tick 1", [("go", (), "untick", ())] * 2, 1)

    def test_the_kind_for_each_mixture(self):
        term = read_term("ifzero fun a tick 3 fun c tick 4 1")
        claims = [claim_of("1", "1", "same"), claim_of("1", "1", "better")]
        rows = [
            (("go", (0,), "rename", (0, "a", "b")), "same"),
            (("go", (1, 0), "untick", ()), "better"),
            (("back", (0, 0), "reckon", (), read_term("+ 1 2")), "same"),
            (("claim", (2,), 0), "same"),
            (("claim", (2,), 1), "better")]
        for many in range(len(rows) + 1):
            for some in itertools.permutations(rows, many):
                kinds = [kind for _, kind in some]
                claim = derive(term, [step for step, _ in some], claims)
                self.assertEqual(claim.kind, "better" if "better" in kinds else "same", some)

    def test_a_claim_may_have_the_kind_that_a_step_needs_later(self):
        first = derive(read_term("+ 1 2"), [("go", (), "reckon", ())])
        second = derive(read_term("+ 1 2"), [("go", (), "reckon", ()), ("go", (), "untick", ())])
        self.derived("fun x + 1 2", [("claim", (0,), 0)], "fun x tick 3", "same", [first, second])
        self.derived("fun x + 1 2", [("claim", (0,), 1)], "fun x 3", "better", [first, second])

    def test_holes_are_terms_like_others(self):
        self.derived("let x 1 in hole", [("go", (), "spoil", ())], "waste hole", "same")
        self.derived("hole", [("claim", (), 0)], "1", "same", [claim_of("hole", "1", "same")])


class Right(unittest.TestCase):
    """Point [12], for claims that were derived from no claims, in many programs."""

    def check(self, claim, binding, tally):
        first, last = [run(filled(binding, term), 150) for term in (claim.first, claim.last)]
        if claim.kind == "same" and "answer" in (first.kind, last.kind):
            self.assertEqual(first, last, (claim.first, claim.last))
            tally["same"] += 1
        if claim.kind == "better" and first.kind == "answer":
            found = (last.kind, last.answer, last.steps <= first.steps, last.cells <= first.cells)
            self.assertEqual(found, ("answer", first.answer, True, True), (claim.first, claim.last))
            tally["better"] += 1

    def test_one_step(self):
        maker = Maker(12)
        held = {}
        tally = {"same": 0, "better": 0}
        for k in range(1500):
            term = maker.term(2 + k % 3)
            for rule in SAME + BETTER:
                for given in things_told(rule, term):
                    if applied(rule, term, given) is not None:
                        held[rule] = held.get(rule, 0) + 1
                        claim = derive(term, [("go", (), rule, given)])
                        self.assertEqual(claim.kind, kind_of(rule))
                        for _ in range(2):
                            self.check(claim, maker.binding(), tally)
        self.assertEqual(set(held), set(SAME + BETTER))
        self.assertGreater(min(tally.values()), 500, tally)

    def test_several_steps(self):
        maker = Maker(13)
        tally = {"same": 0, "better": 0}
        for k in range(400):
            term = first = maker.term(4)
            steps = []
            rules = SAME if k % 2 else SAME + BETTER
            for _ in range(6):
                place = maker.one(places(term))
                part = part_at(term, place)
                choices = [("go", place, rule, given) for rule in rules for given in things_told(rule, part)[:40]
                           if applied(rule, part, given) is not None]
                if choices:
                    steps.append(maker.one(choices))
                    term = derive(term, steps[-1:]).last
            claim = derive(first, steps)
            self.assertEqual(claim.last, term)
            self.assertEqual(claim.kind == "better", any([kind_of(step[2]) == "better" for step in steps]))
            for _ in range(8):
                self.check(claim, maker.binding(), tally)
        self.assertGreater(min(tally.values()), 100, tally)

    def test_programs(self):
        rows = [
            ("let y 3 in call fun x + x x y",
             [("go", (1,), "beta", ()), ("go", (), "float-cost", (1,)), ("go", (0,), "copy", ("y", (1, 0))),
              ("go", (0, 1), "float-cost", (0,))]),
            ("case make A ( ) of A ( ) ifzero 0 + 2 3 9 end",
             [("go", (), "choose", ()), ("go", (0,), "zero", ()), ("go", (0, 0), "reckon", ()),
              ("go", (0,), "untick", ()), ("go", (), "untick", ())]),
            ("let a 1 in let b a in let c 9 in + b b",
             [("go", (1,), "join", ()), ("go", (1, 0), "unused", (("c",),)), ("go", (1,), "untick", ()),
              ("go", (1,), "alias", ())])]
        for text, steps in rows:
            claim = derive(read_term(text), steps)
            first, last = run(claim.first, 1000), run(claim.last, 1000)
            self.assertEqual(first.kind, "answer")
            self.assertEqual(free_names(claim.first) + free_names(claim.last), [])
            if claim.kind == "same":
                self.assertEqual(first, last)
            else:
                self.assertEqual((last.kind, last.answer), (first.kind, first.answer))
                self.assertLess(last.steps, first.steps)
                self.assertLessEqual(last.cells, first.cells)


class Interface(unittest.TestCase):
    def test_fields(self):
        first, last = read_term("tick x"), read_term("x")
        claim = Claim(first, last, "better")
        self.assertEqual((claim.first, claim.last, claim.kind), (first, last, "better"))

    def test_equal_claims(self):
        fields = (read_term("tick x"), read_term("x"), "better")
        self.assertTrue(Claim(*fields) == Claim(*copy.deepcopy(fields)))
        self.assertFalse(Claim(*fields) != Claim(*fields))
        for k, other in enumerate((read_term("tick y"), read_term("y"), "same")):
            changed = Claim(*(fields[:k] + (other,) + fields[k + 1:]))
            self.assertFalse(Claim(*fields) == changed, k)
            self.assertTrue(Claim(*fields) != changed, k)
            self.assertTrue(changed != Claim(*fields), k)
        self.assertTrue(Claim(fields[0], fields[1], "same") != Claim(fields[1], fields[0], "same"))

    def test_claims_with_terms_of_other_lengths(self):
        rows = [
            "let x 1 in 2", "let x 1 y 2 in 2", "make A ( )", "make A ( x )", "make A ( x y )", "tick 1", "+ 1 1",
            "ifzero 1 1 1", "case 1 of A ( ) 1 end", "case 1 of A ( x ) 1 end", "case 1 of A ( ) 1 of B ( ) 1 end"]
        for one in rows:
            for other in rows:
                self.assertIs(claim_of(one, "1", "same") == claim_of(other, "1", "same"), one == other)
                self.assertIs(claim_of("1", one, "same") == claim_of("1", other, "same"), one == other)
                if one != other:
                    with self.assertRaises(BadStep):
                        derive(read_term(one), [("claim", (), 0)], [claim_of(other, "1", "same")])

    def test_claims_with_deep_terms(self):
        deeps = [Claim(read_term("x"), ticks(10000, last), "same") for last in ("1", "1", "2")]
        self.assertTrue(deeps[0] == deeps[1])
        self.assertFalse(deeps[0] == deeps[2])
        self.assertTrue(deeps[0] != deeps[2])

    def test_a_claim_equals_nothing_else(self):
        fields = (read_term("tick x"), read_term("x"), "better")
        for other in (None, 0, "claim", fields, list(fields), object()):
            self.assertFalse(Claim(*fields) == other)
            self.assertTrue(Claim(*fields) != other)

    def test_nothing_that_is_passed_is_changed(self):
        first = read_term("+ f tick 1")
        given = read_term("call fun x x g")
        steps = [("claim", (0,), 0), ("go", (1,), "untick", ()), ("back", (0,), "beta", (), given)]
        claims = [claim_of("f", "tick g", "same"), claim_of("g", "h", "better")]
        kept = copy.deepcopy((first, steps))
        kept_claims = list(claims)
        fields = [(claim.first, claim.last, claim.kind) for claim in claims]
        one = derive(first, steps, claims)
        self.assertEqual((first, steps), kept)
        self.assertEqual(claims, kept_claims)
        self.assertEqual([(claim.first, claim.last, claim.kind) for claim in claims], fields)
        self.assertEqual(derive(first, steps, claims), one)
        self.assertEqual(term_text(one.last), "+ call fun x x g 1")

    def test_a_refused_derivation_changes_nothing(self):
        steps = [("go", (), "untick", ()), ("claim", (), 4)]
        claims = [claim_of("f", "g", "same")]
        with self.assertRaises(BadStep):
            derive(read_term("tick 1"), steps, claims)
        self.assertEqual(steps, [("go", (), "untick", ()), ("claim", (), 4)])
        self.assertEqual(claims, [claim_of("f", "g", "same")])

    def test_the_error(self):
        with self.assertRaises(TermError):
            derive(read_term("tick 1"), [("go", (), "beta", ())])

    def test_claims_may_be_left_out(self):
        self.assertEqual(derive(read_term("tick 1"), []), derive(read_term("tick 1"), [], []))
        self.assertEqual(derive(first=read_term("1"), steps=[], claims=[]), claim_of("1", "1", "same"))

    def test_each_is_defined_in_the_file_that_lists_it(self):
        for thing in (Claim, kind_of, applied, derive):
            self.assertEqual(thing.__module__, "notslower.derivation")
            self.assertIs(getattr(derivation, thing.__name__), thing)
        for method in ("__init__", "__eq__"):
            self.assertIn(method, vars(Claim))


if __name__ == "__main__":
    unittest.main()
