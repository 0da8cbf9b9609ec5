"""Points [17], [18] and [19], and the interface of notslower.library."""

import copy
import inspect
import unittest

from notslower import library as module
from notslower.contexts import filled
from notslower.derivation import Claim, applied, derive, kind_of
from notslower.errors import BadEntry, BadStep, TermError
from notslower.improve import improve
from notslower.library import checked, improved
from notslower.machine import run
from notslower.terms import part_at, places, put_at, size
from notslower.text import read_term

from claim_texts import claim_of, texts_of, ticks
from loops import CLAIMS, LIBRARY
from slow_improve import first_step, slow_steps
from small_terms import Maker, things_told

HOLE = ("hole",)
RULES = ("rename", "beta", "choose", "zero", "reckon", "float-let", "float-cost", "join", "branch", "sink", "order",
         "copy", "spoil", "unused", "once", "alias", "into", "untick", "cheaper")
TOLD_RULES = ("rename", "float-let", "float-cost", "order", "copy", "unused")
# Entries 0 to 3: from `+ 1 2` to `tick 3` (same), from `tick 3` to `3` (better), both chained, and in a context.
GOOD = [
    ("derived", read_term("+ 1 2"), (("go", (), "reckon", ()),)),
    ("derived", read_term("tick 3"), (("go", (), "untick", ()),)),
    ("chain", 0, 1),
    ("context", 0, read_term("fun x hole"))]
GOOD_CLAIMS = [
    ("+ 1 2", "tick 3", "same"), ("tick 3", "3", "better"), ("+ 1 2", "3", "better"),
    ("fun x + 1 2", "fun x tick 3", "same")]
ROUND = "let f fun a call f a in call f y"
# From a term without an answer to two ticks of it (entry 0), and from two ticks of 7 to 7 (entry 1).
ENDLESS = [
    ("derived", read_term(ROUND), (
        ("go", (), "copy", ("f", (1, 0))), ("go", (1,), "float-cost", (0,)), ("go", (1, 0), "beta", ()),
        ("go", (), "float-cost", (1,)), ("go", (0,), "float-cost", (1,)))),
    ("derived", read_term("tick tick 7"), (("go", (), "untick", ()), ("go", (), "untick", ())))]


class Entries(unittest.TestCase):
    def leads(self, entries, *wanted):
        """The last entries lead to these claims."""
        with self.subTest(entries=entries):
            kept = copy.deepcopy(entries)
            claims = checked(entries)
            self.assertIs(type(claims), list)
            self.assertEqual(len(claims), len(entries))
            for claim in claims:
                self.assertIs(type(claim), Claim)
            found = [texts_of(claim) for claim in claims]
            self.assertEqual(found[len(found) - len(wanted):], list(wanted))
            self.assertEqual(entries, kept)

    def refused(self, entries, at):
        with self.subTest(entries=entries):
            kept = copy.deepcopy(entries)
            with self.assertRaises(BadEntry) as caught:
                checked(entries)
            self.assertEqual(caught.exception.at, at)
            self.assertIs(type(caught.exception), BadEntry)
            self.assertEqual(entries, kept)

    def last_refused(self, entry, before=GOOD):
        """The entry is refused behind others, and whatever stands behind it."""
        self.refused([*before, entry], len(before))
        self.refused([*before, entry, *GOOD], len(before))
        self.refused([*before, entry, entry, entry], len(before))


class Checked(Entries):
    def test_no_entries(self):
        self.assertEqual(checked([]), [])
        self.assertEqual(checked(()), [])

    def test_the_library_of_the_loops(self):
        self.leads(list(LIBRARY), *CLAIMS)
        self.leads(LIBRARY, *CLAIMS)

    def test_several_entries(self):
        self.leads(GOOD, *GOOD_CLAIMS)
        for many in range(len(GOOD)):
            self.leads(GOOD[:many], *GOOD_CLAIMS[:many])

    def test_derived(self):
        self.leads([("derived", read_term("x"), ())], ("x", "x", "same"))
        self.leads([("derived", read_term("x"), [])], ("x", "x", "same"))
        self.leads([("derived", read_term("+ tick x 1"), [("go", (0,), "untick", ())])],
                   ("+ tick x 1", "+ x 1", "better"))
        self.leads([("derived", read_term("tick 3"), (("back", (), "reckon", (), read_term("+ 1 2")),))],
                   ("tick 3", "+ 1 2", "same"))
        self.leads([("derived", read_term("let x 1 in hole"), (("go", (), "spoil", ()),))],
                   ("let x 1 in hole", "waste hole", "same"))

    def test_derived_from_claims_of_earlier_entries(self):
        term = read_term("- + 1 2 tick 3")
        for steps, last, kind in (
                ((("claim", (0,), 0),), "- tick 3 tick 3", "same"),
                ((("claim", (1,), 1),), "- + 1 2 3", "better"),
                ((("claim", (0,), 2), ("claim", (1,), 1)), "- 3 3", "better"),
                ((("claim", (0,), 0), ("claim", (0,), 1)), "- 3 tick 3", "better")):
            self.leads([*GOOD, ("derived", term, steps)], ("- + 1 2 tick 3", last, kind))
        self.leads([*GOOD, ("derived", read_term("+ fun x + 1 2 1"), (("claim", (0,), 3),))],
                   ("+ fun x + 1 2 1", "+ fun x tick 3 1", "same"))

    def test_a_step_that_does_not_hold_at_each_place_of_a_derivation(self):
        good = ("go", (), "float-cost", (0,))
        for bad in (("go", (), "beta", ()), ("go", (3,), "untick", ()), ("go", (-1,), "untick", ()),
                    ("go", (), "none", ()), ("go", (), "float-cost", ()), ("claim", (), 0), ("undo", (), 0),
                    ("back", (), "untick", (), read_term("tick tick tick 1"))):
            for k in range(4):
                steps = [good] * k + [bad] + [good] * (3 - k)
                self.last_refused(("derived", read_term("tick tick 1"), tuple(steps)))
                self.refused([("derived", read_term("tick tick 1"), steps)], 0)
        self.leads([("derived", read_term("tick tick 1"), (good,) * 4)], ("tick tick 1", "tick tick 1", "same"))

    def test_context(self):
        self.leads([*GOOD, ("context", 0, read_term("hole"))], ("+ 1 2", "tick 3", "same"))
        self.leads([*GOOD, ("context", 1, read_term("let x hole in x"))],
                   ("let x tick 3 in x", "let x 3 in x", "better"))
        self.leads([*GOOD, ("context", 3, read_term("tick hole"))],
                   ("tick fun x + 1 2", "tick fun x tick 3", "same"))

    def test_what_is_no_context(self):
        for text in ("1", "x", "fun x x", "+ hole hole", "let x hole in hole"):
            for k in range(4):
                self.last_refused(("context", k, read_term(text)))

    def test_chain(self):
        self.leads([*GOOD, ("chain", 0, 1)], ("+ 1 2", "3", "better"))
        same = ("derived", read_term("tick 3"), (("back", (), "reckon", (), read_term("+ 0 3")),))
        self.leads([*GOOD, same, ("chain", 0, 4)], ("+ 1 2", "+ 0 3", "same"))
        self.leads([("derived", read_term("x"), ()), ("chain", 0, 0)], ("x", "x", "same"))

    def test_claims_that_do_not_chain(self):
        for j in range(4):
            for k in range(4):
                if (j, k) != (0, 1):
                    self.last_refused(("chain", j, k))

    def test_recursion(self):
        self.leads([*ENDLESS, ("recursion", 0, 1, read_term("tick hole"), ())], (ROUND, "7", "better"))
        self.leads([*ENDLESS, ("recursion", 0, 1, read_term("tick hole"), [])], (ROUND, "7", "better"))
        self.leads([*ENDLESS, ("recursion", 0, 1, read_term("tick hole"), (("z", "u"), ("u", "z")))],
                   (ROUND, "7", "better"))

    def test_the_refusals_of_a_recursion(self):
        context = read_term("tick hole")
        for entry in (
                ("recursion", 0, 1, read_term("tick 1"), ()), ("recursion", 0, 1, read_term("+ hole hole"), ()),
                ("recursion", 0, 1, read_term("hole"), ()), ("recursion", 1, 1, context, ()),
                ("recursion", 1, 0, context, ()), ("recursion", 0, 0, context, ()),
                ("recursion", 0, 1, context, (("y", "z"),)), ("recursion", 0, 1, context, (("y", "f"),))):
            self.last_refused(entry, ENDLESS)
        captured = ("derived", read_term("tick tick fun z z"), (("go", (), "untick", ()), ("go", (), "untick", ())))
        self.leads([*ENDLESS, captured, ("recursion", 0, 2, context, ())], (ROUND, "fun z z", "better"))
        self.last_refused(("recursion", 0, 2, context, (("y", "a"),)), [*ENDLESS, captured])

    def test_something_captures_in_one_of_the_terms(self):
        first = ("derived", read_term("let g fun y x in 1"), ())
        self.refused([first, ("recursion", 0, 0, HOLE, (("x", "y"),))], 1)
        last = ("derived", read_term("tick tick fun y x"), (("go", (), "untick", ()), ("go", (), "untick", ())))
        context = read_term("tick hole")
        self.refused([ENDLESS[0], last, ("recursion", 0, 1, context, (("x", "y"),))], 2)
        self.leads([ENDLESS[0], last, ("recursion", 0, 1, context, (("x", "x"),))], (ROUND, "fun y x", "better"))

    def test_numbers_of_entries_that_there_are_not(self):
        context = read_term("tick hole")
        for before in ([], ENDLESS[:1], ENDLESS, GOOD):
            many = len(before)
            for k in (many, many + 1, many + 2, 999, -1, -2, -many, -many - 1):
                if k not in range(many):
                    self.last_refused(("context", k, HOLE), before)
                    self.last_refused(("chain", k, 0), before)
                    self.last_refused(("chain", 0, k), before)
                    self.last_refused(("recursion", k, 1, context, ()), before)
                    self.last_refused(("recursion", 0, k, context, ()), before)

    def test_claims_of_steps_that_there_are_not(self):
        for k in (4, 5, 99, -1, -2, -3, -4, -5):
            for first, last, _ in GOOD_CLAIMS:
                self.last_refused(("derived", read_term(first), (("claim", (), k),)))
                self.last_refused(("derived", read_term(last), (("undo", (), k),)))

    def test_an_entry_of_another_form(self):
        for word in ("", "Chain", "claim", "go", "undo", "line"):
            self.last_refused((word, 0, 1))

    def test_the_first_entry_has_no_earlier_ones(self):
        for k in (0, 1, -1):
            self.refused([("context", k, HOLE)], 0)
            self.refused([("chain", k, k)], 0)
            self.refused([("recursion", k, k, HOLE, ())], 0)
            self.refused([("derived", read_term("x"), (("claim", (), k),))], 0)
            self.refused([("derived", read_term("x"), (("undo", (), k),))], 0)
        self.refused([("context", 1, HOLE), ("derived", read_term("x"), ())], 0)

    def test_which_entry_is_the_first(self):
        bad = ("chain", 0, 0)
        for k in range(1, len(GOOD) + 1):
            self.refused([*GOOD[:k], bad, *GOOD[k:]], k)
            self.refused([*GOOD[:k], bad, *GOOD[k:], bad], k)
            self.refused([*GOOD[:k], bad, ("context", 77, HOLE)], k)
        self.refused([bad, *GOOD], 0)
        self.refused([bad], 0)
        self.refused([("context", -1, HOLE), ("chain", 5, 5), *GOOD], 0)


class Undo(Entries):
    def test_a_claim_of_the_kind_same(self):
        self.leads([*GOOD, ("derived", read_term("tick 3"), (("undo", (), 0),))], ("tick 3", "+ 1 2", "same"))
        self.leads([*GOOD, ("derived", read_term("- tick 3 tick 3"), (("undo", (1,), 0),))],
                   ("- tick 3 tick 3", "- tick 3 + 1 2", "same"))
        self.leads([*GOOD, ("derived", read_term("tick fun x tick 3"), [("undo", (0,), 3)])],
                   ("tick fun x tick 3", "tick fun x + 1 2", "same"))
        self.leads([*GOOD, ("derived", read_term("+ 1 2"), [("claim", (), 0), ("undo", (), 0), ("claim", (), 2)])],
                   ("+ 1 2", "3", "better"))
        self.leads([*GOOD, ("derived", read_term("tick tick 3"), [("go", (), "untick", ()), ("undo", (), 0)])],
                   ("tick tick 3", "+ 1 2", "better"))

    def test_a_claim_of_the_kind_better(self):
        self.last_refused(("derived", read_term("3"), (("undo", (), 1),)))
        self.last_refused(("derived", read_term("3"), (("undo", (), 2),)))
        self.last_refused(("derived", read_term("+ 3 3"), (("undo", (0,), 2),)))

    def test_where_the_last_term_does_not_stand(self):
        for text in ("+ 1 2", "3", "tick 2", "waste 3", "tick tick 3", "x"):
            self.last_refused(("derived", read_term(text), (("undo", (), 0),)))
        self.last_refused(("derived", read_term("tick tick 3"), (("undo", (0, 0), 0),)))
        self.last_refused(("derived", read_term("fun y tick 3"), (("undo", (), 3),)))

    def test_places_that_there_are_not(self):
        for place in ((1,), (-1,), (0, 0), (0, -1), (5, 5)):
            self.last_refused(("derived", read_term("tick 3"), (("undo", place, 0),)))

    def test_it_is_a_step_of_libraries_only(self):
        claims = checked(GOOD)
        with self.assertRaises(BadStep) as caught:
            derive(read_term("tick 3"), [("undo", (), 0)], claims)
        self.assertEqual(caught.exception.at, 0)
        with self.assertRaises(BadStep) as caught:
            derive(read_term("+ 1 2"), [("claim", (), 0), ("undo", (), 0)], claims)
        self.assertEqual(caught.exception.at, 1)

    def test_it_may_undo_a_claim_that_was_undone(self):
        first = ("derived", read_term("tick 3"), (("undo", (), 0),))
        second = ("derived", read_term("+ 1 2"), (("undo", (), 4),))
        self.leads([*GOOD, first, second], ("tick 3", "+ 1 2", "same"), ("+ 1 2", "tick 3", "same"))


class Right(unittest.TestCase):
    """Point [18], in many programs, and point [12], for the claims of libraries."""

    def check(self, claim, binding, tally):
        first, last = [run(filled(binding, term), 150) for term in (claim.first, claim.last)]
        if claim.kind == "same" and "answer" in (first.kind, last.kind):
            self.assertEqual(first, last, texts_of(claim))
            tally["same"] += 1
        if claim.kind == "better" and first.kind == "answer":
            found = (last.kind, last.answer, last.steps <= first.steps, last.cells <= first.cells)
            self.assertEqual(found, ("answer", first.answer, True, True), texts_of(claim))
            tally["better"] += 1

    def random_step(self, maker, term, claims):
        """A step that holds, or None."""
        place = maker.one(places(term))
        part = part_at(term, place)
        steps = [("claim", place, k) for k, claim in enumerate(claims) if claim.first == part]
        steps += [("undo", place, k) for k, claim in enumerate(claims)
                  if claim.kind == "same" and claim.last == part]
        if steps and maker.random.randrange(2):
            return maker.one(steps)
        rules = [rule for rule in RULES if applied(rule, part, ()) is not None or rule in TOLD_RULES]
        choices = [("go", place, rule, given) for rule in rules for given in things_told(rule, part)[:40]
                   if applied(rule, part, given) is not None]
        return maker.one(choices) if choices else None

    def random_derived(self, maker, claims):
        """An entry that is derived from earlier claims, too."""
        term = maker.term(4)
        for claim in claims[-3:]:
            if maker.random.randrange(2):
                term = put_at(term, maker.one(places(term)), maker.one([claim.first, claim.last]))
        first, steps = term, []
        for _ in range(5):
            step = self.random_step(maker, term, claims)
            if step is not None:
                steps.append(step)
                term = put_at(term, step[1], self.changed(part_at(term, step[1]), step, claims))
        return ("derived", first, tuple(steps)), Claim(first, term, self.kind(steps, claims))

    def changed(self, part, step, claims):
        if step[0] == "go":
            return applied(step[2], part, step[3])
        return claims[step[2]].last if step[0] == "claim" else claims[step[2]].first

    def kind(self, steps, claims):
        kinds = [kind_of(step[2]) if step[0] == "go" else claims[step[2]].kind for step in steps]
        return "better" if "better" in kinds else "same"

    def test_made_up_libraries(self):
        maker = Maker(171)
        tally = {"same": 0, "better": 0}
        used = {"claim": 0, "undo": 0, "chain": 0}
        for _ in range(60):
            entries, claims = [], []
            for _ in range(6):
                entry, claim = self.random_derived(maker, claims)
                for step in entry[2]:
                    used[step[0]] = used.get(step[0], 0) + 1
                context = maker.term(3)
                context = put_at(context, maker.one(places(context)), HOLE)
                entries += [entry, ("context", len(claims), context)]
                claims += [claim, Claim(filled(context, claim.first), filled(context, claim.last), claim.kind)]
                fits = [(j, k) for j in range(len(claims)) for k in range(len(claims))
                        if claims[j].last == claims[k].first and claims[j].first != claims[j].last]
                if fits:
                    j, k = maker.one(fits)
                    used["chain"] += 1
                    entries.append(("chain", j, k))
                    kinds = (claims[j].kind, claims[k].kind)
                    claims.append(Claim(claims[j].first, claims[k].last, "better" if "better" in kinds else "same"))
            self.assertEqual(checked(entries), claims)
            for claim in claims:
                for _ in range(2):
                    self.check(claim, maker.binding(), tally)
        self.assertGreater(min(used.values()), 5, used)
        self.assertGreater(min(tally.values()), 100, tally)

    def test_the_loops(self):
        tally = {"same": 0, "better": 0}
        for claim in checked(LIBRARY):
            for held in ("0", "1", "2", "7", "tick 3", "waste 3", "make A ( )", "fun x x", "hole"):
                self.check(claim, ("let", (("y", read_term(held)),), HOLE), tally)
        self.assertGreater(min(tally.values()), 15, tally)

    def test_a_program_in_which_a_claim_is_used(self):
        claims = checked(LIBRARY)
        term = read_term(f"let y 9 in let s fun a a in + 1 {CLAIMS[3][0]}")
        last = derive(term, [("claim", (1, 1, 1), 3)], claims).last
        one, other = run(term, 1000), run(last, 1000)
        self.assertEqual((one.kind, one.answer), ("answer", ("number", 1)))
        self.assertEqual((other.kind, other.answer, other.cells), ("answer", ("number", 1), one.cells))
        self.assertEqual(one.steps - other.steps, 10)


class Improved(unittest.TestCase):
    def improves(self, text, claims, *wanted):
        """These are all steps, with claims of both kinds."""
        for kind in ("same", "better"):
            with self.subTest(text=text, claims=claims, kind=kind):
                term = read_term(text)
                made = [claim_of(first, last, kind) for first, last in claims]
                steps = improved(term, made)
                self.assertIs(type(steps), list)
                self.assertEqual(steps, list(wanted))
                self.assertEqual(improved(term, tuple(made)), steps)
                derive(term, steps, made)

    def test_no_claims(self):
        maker = Maker(190)
        for k in range(100):
            term = maker.term(3 + k % 3)
            self.assertEqual(improved(term, []), improve(term))
            self.assertEqual(improved(term, ()), improve(term))

    def test_a_claim_before_the_rules_at_one_place(self):
        self.improves("tick x", [("tick x", "x")], ("claim", (), 0))
        self.improves("+ 1 2", [("+ 1 2", "3")], ("claim", (), 0))
        self.improves("let x y in x", [("let x y in x", "z")], ("claim", (), 0))
        self.improves("+ 1 2", [("+ 1 3", "4"), ("+ 1 2", "3")], ("claim", (), 1))
        self.improves("let x 1 in 2", [("let x 1 in 2", "tick 2")], ("claim", (), 0), ("go", (), "untick", ()))

    def test_a_claim_behind_the_rules_at_an_earlier_place(self):
        self.improves("tick + x x", [("+ x x", "y")], ("go", (), "untick", ()), ("claim", (), 0))
        self.improves("+ tick z + x x", [("+ x x", "y")], ("go", (0,), "untick", ()), ("claim", (1,), 0))
        self.improves("let z + x x in 1", [("+ x x", "y")], ("go", (), "unused", (("z",),)))
        self.improves("+ + x x tick z", [("+ x x", "y")], ("claim", (0,), 0), ("go", (1,), "untick", ()))
        self.improves("fun z + x x", [("+ x x", "y")], ("claim", (0,), 0))

    def test_the_number_of_places_of_the_last_term(self):
        first = "+ x + y z"
        self.improves(first, [(first, "make A ( )")], ("claim", (), 0))
        self.improves(first, [(first, "+ x waste y")], ("claim", (), 0))
        self.improves(first, [(first, "+ x + x x")])
        self.improves(first, [(first, "+ x + y waste z")])
        self.improves(first, [(first, first)])
        self.improves("x", [("x", "1"), ("x", "y"), ("x", "waste x")])
        self.improves("+ f g", [("f", "make A ( )"), ("g", "1")])

    def test_claims_with_the_same_first_term(self):
        self.improves("+ x y", [("+ x y", "1"), ("+ x y", "2")], ("claim", (), 0))
        self.improves("+ x y", [("+ x y", "+ y x"), ("+ x y", "2"), ("+ x y", "3")], ("claim", (), 1))
        self.improves("+ x y", [("+ x y", "waste z"), ("+ x y", "z")], ("claim", (), 0))

    def test_claims_that_stand_at_several_places(self):
        self.improves("* + x y - + x y + x y", [("+ x y", "1")], ("claim", (0,), 0), ("claim", (1, 0), 0),
                      ("claim", (1, 1), 0), ("go", (1,), "reckon", ()), ("go", (1,), "untick", ()),
                      ("go", (), "reckon", ()), ("go", (), "untick", ()))
        self.improves("waste waste waste x", [("waste x", "x")], ("claim", (0, 0), 0), ("claim", (0,), 0),
                      ("claim", (), 0))
        self.improves("fun a fun b + x y", [("fun b + x y", "z"), ("+ x y", "z")], ("claim", (0,), 0))

    def test_places_before_the_last_step(self):
        claims = [("* x 1", "x"), ("- x x", "0")]
        self.improves("- * x 1 * x 1", claims, ("claim", (0,), 0), ("claim", (1,), 0), ("claim", (), 1))
        self.improves("+ - * x 1 * x 1 * x 1", claims, ("claim", (0, 0), 0), ("claim", (0, 1), 0),
                      ("claim", (0,), 1), ("claim", (1,), 0))
        self.improves("* tick x 1", claims, ("go", (0,), "untick", ()), ("claim", (), 0))

    def test_names_are_compared_as_they_stand(self):
        self.improves("fun y + y 1", [("fun x + x 1", "g")])
        self.improves("fun x + x 1", [("fun x + x 1", "g")], ("claim", (), 0))
        self.improves("fun x + x 1", [("+ x 1", "y")], ("claim", (0,), 0))

    def test_claims_of_a_library(self):
        claims = checked(LIBRARY)
        self.assertEqual(improved(read_term(f"+ 1 {CLAIMS[3][0]}"), claims), [("claim", (1,), 3)])
        term = read_term(f"+ 1 {CLAIMS[4][0]}")
        self.assertEqual(improved(term, claims), [("claim", (1,), 4)])
        self.assertEqual(improved(term, claims[:4]), [("claim", (1, 1), 3)])

    def test_it_is_what_a_slower_way_finds(self):
        maker = Maker(191)
        used = 0
        for k in range(250):
            term = maker.term(3 + k % 4)
            parts = [part_at(term, maker.one(places(term))) for _ in range(5)]
            claims = [Claim(part, maker.one((part, maker.term(2), maker.term(1), derive(part, improve(part)).last)),
                            maker.one(("same", "better"))) for part in parts]
            kept = copy.deepcopy((term, claims))
            steps = improved(term, claims)
            self.assertEqual(steps, slow_steps(term, claims), (term, [texts_of(claim) for claim in claims]))
            self.assertEqual((term, claims), kept)
            last = derive(term, steps, claims).last
            self.assertIsNone(first_step(last, claims))
            self.assertLessEqual(size(last), size(term) - len(steps))
            used += len([step for step in steps if step[0] == "claim"])
        self.assertGreater(used, 100)

    def test_programs_keep_their_answer(self):
        maker = Maker(192)
        answers = 0
        for k in range(250):
            term = maker.term(3 + k % 4)
            parts = [part_at(term, maker.one(places(term))) for _ in range(3)]
            claims = [derive(part, improve(part)) for part in parts]
            last = derive(term, improved(term, claims), claims).last
            for _ in range(4):
                binding = maker.binding()
                one, other = run(filled(binding, term), 200), run(filled(binding, last), 200)
                if one.kind == "answer":
                    answers += 1
                    found = (other.kind, other.answer, other.steps <= one.steps, other.cells <= one.cells)
                    self.assertEqual(found, ("answer", one.answer, True, True), (binding, term))
        self.assertGreater(answers, 300)


class Deep(unittest.TestCase):
    def test_deep_entries(self):
        entries = [
            ("derived", ticks(4000, "+ 1 2"), (("go", (0,) * 4000, "reckon", ()),)),
            ("derived", ticks(4001, "3"), (("go", (), "untick", ()),)),
            ("chain", 0, 1), ("context", 2, ticks(2000, "hole")),
            ("derived", ticks(4002, "3"), (("undo", (0,), 0), ("claim", (0,), 0)))]
        claims = checked(entries)
        self.assertTrue(claims[2] == Claim(ticks(4000, "+ 1 2"), ticks(4000, "3"), "better"))
        self.assertTrue(claims[3] == Claim(ticks(6000, "+ 1 2"), ticks(6000, "3"), "better"))
        self.assertTrue(claims[4] == Claim(ticks(4002, "3"), ticks(4002, "3"), "same"))
        with self.assertRaises(BadEntry):
            checked(entries + [("chain", 1, 0)])

    def test_deep_terms_with_deep_claims(self):
        claims = [Claim(ticks(4000, "y"), read_term("y"), "better"), Claim(ticks(4000, "x"), read_term("x"), "better")]
        self.assertEqual(improved(ticks(4001, "x"), claims), [("go", (), "untick", ()), ("claim", (), 1)])


class Interface(unittest.TestCase):
    def test_each_function_is_defined_in_the_file_that_lists_it(self):
        for function, names in ((checked, ["entries"]), (improved, ["term", "claims"])):
            self.assertEqual(function.__module__, "notslower.library")
            self.assertIs(getattr(module, function.__name__), function)
            self.assertEqual(list(inspect.signature(function).parameters), names)

    def test_the_error(self):
        with self.assertRaises(TermError):
            checked([("chain", 0, 0)])

    def test_what_is_returned_may_be_changed_without_effect(self):
        claims = checked(GOOD)
        claims.clear()
        self.assertEqual(len(checked(GOOD)), 4)
        steps = improved(read_term("tick 1"), [])
        steps.clear()
        self.assertEqual(len(improved(read_term("tick 1"), [])), 1)


if __name__ == "__main__":
    unittest.main()
