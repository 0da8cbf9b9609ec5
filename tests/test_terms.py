"""Points [4] and [5], and the interface of notslower.terms."""

import copy
import unittest

from notslower import terms
from notslower.terms import captures, depth, free_names, part_at, parts, places, put_at, size, with_parts
from notslower.text import read_term

OPERATORS = ("+", "-", "*", "/", "<", "=")
X, Y, Z = ("var", "x"), ("var", "y"), ("var", "z")
ONE, TWO, THREE = ("number", 1), ("number", 2), ("number", 3)
HOLE = ("hole",)

LET = ("let", (("x", X), ("y", ("tick", Z))), Y)
CASE = ("case", X, (("A", (), ONE), ("B", ("y", "z"), ("call", Y, "z")), ("C", ("x",), X)))

# Each form of term, with its parts and the names that it binds in each.
FORMS = [
    (X, []),
    (ONE, []),
    (("fun", "x", Y), [(Y, ("x",))]),
    (("call", X, "y"), [(X, ())]),
    (LET, [(X, ("x", "y")), (("tick", Z), ("x", "y")), (Y, ("x", "y"))]),
    (("let", (("x", ONE),), X), [(ONE, ("x",)), (X, ("x",))]),
    (("make", "A", ()), []),
    (("make", "A", ("x", "y")), []),
    (CASE, [(X, ()), (ONE, ()), (("call", Y, "z"), ("y", "z")), (X, ("x",))]),
    (("ifzero", X, Y, Z), [(X, ()), (Y, ()), (Z, ())]),
    (("tick", X), [(X, ())]),
    (("waste", X), [(X, ())]),
    (HOLE, []),
] + [((sign, X, Y), [(X, ()), (Y, ())]) for sign in OPERATORS]


def ticks(many, term):
    """The term with so many ticks around it."""
    for _ in range(many):
        term = ("tick", term)
    return term


class Parts(unittest.TestCase):
    def test_the_parts_of_each_form_and_the_names_bound_in_them(self):
        for term, wanted in FORMS:
            with self.subTest(term=term):
                self.assertEqual(parts(term), wanted)

    def test_it_is_a_list_of_tuples(self):
        for term, _ in FORMS:
            found = parts(term)
            self.assertIs(type(found), list)
            for pair in found:
                self.assertIs(type(pair), tuple)
                self.assertIs(type(pair[1]), tuple)

    def test_it_is_a_new_list_each_time(self):
        parts(LET).clear()
        self.assertEqual(len(parts(LET)), 3)

    def test_with_other_parts(self):
        for term, inner in FORMS:
            self.assertEqual(with_parts(term, [part for part, _ in inner]), term)
            others = [("number", 100 + k) for k in range(len(inner))]
            changed = with_parts(term, others)
            self.assertEqual(parts(changed), [(other, names) for other, (_, names) in zip(others, inner)])

    def test_four_pairs_and_four_rows(self):
        term = ("let", (("a", ONE), ("b", TWO), ("c", THREE), ("d", X)), Y)
        names = ("a", "b", "c", "d")
        self.assertEqual(parts(term), [(ONE, names), (TWO, names), (THREE, names), (X, names), (Y, names)])
        term = ("case", X, (("A", names, ONE), ("B", (), TWO), ("C", ("a",), THREE), ("D", (), Y)))
        self.assertEqual(parts(term), [(X, ()), (ONE, names), (TWO, ()), (THREE, ("a",)), (Y, ())])


class Places(unittest.TestCase):
    def test_the_places_of_each_form(self):
        self.assertEqual(places(X), [()])
        self.assertEqual(places(ONE), [()])
        self.assertEqual(places(HOLE), [()])
        self.assertEqual(places(("make", "A", ("x", "y", "z"))), [()])
        self.assertEqual(places(("fun", "x", Y)), [(), (0,)])
        self.assertEqual(places(("call", X, "y")), [(), (0,)])
        self.assertEqual(places(LET), [(), (0,), (1,), (1, 0), (2,)])
        self.assertEqual(places(CASE), [(), (0,), (1,), (2,), (2, 0), (3,)])
        self.assertEqual(places(("ifzero", X, Y, Z)), [(), (0,), (1,), (2,)])
        self.assertEqual(places(("tick", X)), [(), (0,)])
        self.assertEqual(places(("waste", X)), [(), (0,)])
        for sign in OPERATORS:
            self.assertEqual(places((sign, X, Y)), [(), (0,), (1,)])

    def test_a_part_comes_with_all_places_in_it_before_the_next_part(self):
        term = read_term("ifzero + a tick b fun x - c d let p e in f")
        self.assertEqual(places(term), [
            (), (0,), (0, 0), (0, 1), (0, 1, 0), (1,), (1, 0), (1, 0, 0), (1, 0, 1), (2,), (2, 0), (2, 1)])

    def test_the_order_of_places_is_the_order_of_tuples(self):
        term = read_term("case let a 1 b fun c c in + a b of A ( ) ifzero 1 2 3 of B ( x ) call tick x x end")
        self.assertEqual(places(term), sorted(places(term)))
        self.assertEqual(len(places(term)), size(term))

    def test_size(self):
        for term, inner in FORMS:
            self.assertEqual(size(term), 1 + sum(size(part) for part, _ in inner))
        self.assertEqual(size(LET), 5)
        self.assertEqual(size(read_term("+ + 1 2 * 3 4")), 7)
        self.assertEqual(size(read_term("make A ( x y z w )")), 1)

    def test_depth(self):
        for term, inner in FORMS:
            self.assertEqual(depth(term), 1 + max([depth(part) for part, _ in inner], default=0))
        self.assertEqual(depth(X), 1)
        self.assertEqual(depth(("make", "A", ("x",))), 1)
        self.assertEqual(depth(("fun", "x", X)), 2)
        self.assertEqual(depth(LET), 3)
        self.assertEqual(depth(read_term("ifzero 1 tick tick x + 2 3")), 4)

    def test_part_at(self):
        for term, inner in FORMS:
            self.assertEqual(part_at(term, ()), term)
            for k, (part, _) in enumerate(inner):
                self.assertEqual(part_at(term, (k,)), part)
        self.assertEqual(part_at(LET, (1, 0)), Z)
        self.assertEqual(part_at(CASE, (2, 0)), Y)

    def test_part_at_tells_places_that_there_are_not(self):
        for term, inner in FORMS:
            for place in ((len(inner),), (len(inner) + 1,), (-1,), (-len(inner) - 1,), (99, 0), (-1, 0), (0, 0, 0)):
                with self.subTest(term=term, place=place):
                    self.assertIsNone(part_at(term, place))
        self.assertIsNone(part_at(LET, (1, 0, 0)))
        self.assertIsNone(part_at(LET, (1, -1)))
        self.assertIsNone(part_at(LET, (1, 1)))
        self.assertIsNone(part_at(LET, (3,)))
        self.assertIsNone(part_at(CASE, (4,)))
        self.assertIsNone(part_at(CASE, (-4,)))

    def test_put_at(self):
        other = ("fun", "q", TWO)
        self.assertEqual(put_at(("fun", "x", Y), (0,), other), ("fun", "x", other))
        self.assertEqual(put_at(("call", X, "y"), (0,), other), ("call", other, "y"))
        self.assertEqual(put_at(LET, (0,), other), ("let", (("x", other), ("y", ("tick", Z))), Y))
        self.assertEqual(put_at(LET, (1,), other), ("let", (("x", X), ("y", other)), Y))
        self.assertEqual(put_at(LET, (1, 0), other), ("let", (("x", X), ("y", ("tick", other))), Y))
        self.assertEqual(put_at(LET, (2,), other), ("let", (("x", X), ("y", ("tick", Z))), other))
        self.assertEqual(put_at(CASE, (0,), other), ("case", other) + CASE[2:])
        self.assertEqual(put_at(CASE, (1,), other), ("case", X, (("A", (), other),) + CASE[2][1:]))
        self.assertEqual(put_at(CASE, (2, 0), other), (
            "case", X, (CASE[2][0], ("B", ("y", "z"), ("call", other, "z")), CASE[2][2])))
        self.assertEqual(put_at(CASE, (3,), other), ("case", X, CASE[2][:2] + (("C", ("x",), other),)))
        self.assertEqual(put_at(("ifzero", X, Y, Z), (0,), other), ("ifzero", other, Y, Z))
        self.assertEqual(put_at(("ifzero", X, Y, Z), (1,), other), ("ifzero", X, other, Z))
        self.assertEqual(put_at(("ifzero", X, Y, Z), (2,), other), ("ifzero", X, Y, other))
        self.assertEqual(put_at(("tick", X), (0,), other), ("tick", other))
        self.assertEqual(put_at(("waste", X), (0,), other), ("waste", other))
        for sign in OPERATORS:
            self.assertEqual(put_at((sign, X, Y), (0,), other), (sign, other, Y))
            self.assertEqual(put_at((sign, X, Y), (1,), other), (sign, X, other))

    def test_put_at_the_empty_place_gives_the_other_term(self):
        for term, _ in FORMS:
            self.assertEqual(put_at(term, (), TWO), TWO)

    def test_what_is_put_at_a_place_is_there_and_nothing_else_changes(self):
        for term, _ in FORMS:
            for place in places(term):
                changed = put_at(term, place, HOLE)
                self.assertEqual(part_at(changed, place), HOLE)
                self.assertEqual(put_at(changed, place, part_at(term, place)), term)
                self.assertEqual(put_at(term, place, part_at(term, place)), term)

    def test_put_at_changes_nothing_through_a_place_that_there_is_not(self):
        for term, inner in FORMS:
            for place in ((len(inner),), (-1,), (-1, 0), (0, 0, 0)):
                self.assertIsNone(put_at(term, place, TWO))


class BoundAndFree(unittest.TestCase):
    def free(self, text):
        found = free_names(read_term(text))
        self.assertIs(type(found), list)
        self.assertEqual(len(found), len(set(found)), found)
        return sorted(found)

    def test_each_kind_of_use(self):
        self.assertEqual(self.free("x"), ["x"])
        self.assertEqual(self.free("call 1 x"), ["x"])
        self.assertEqual(self.free("make A ( x y x )"), ["x", "y"])

    def test_no_uses(self):
        for text in ("1", "hole", "make A ( )", "tick 1", "fun x 1", "let x 1 in 2"):
            self.assertEqual(self.free(text), [])

    def test_each_name_once(self):
        self.assertEqual(self.free("+ x + x call y x"), ["x", "y"])
        self.assertEqual(self.free("make A ( z z z z )"), ["z"])
        self.assertEqual(self.free("call x x"), ["x"])

    def test_a_function_binds_in_its_part(self):
        self.assertEqual(self.free("fun x x"), [])
        self.assertEqual(self.free("fun x call x x"), [])
        self.assertEqual(self.free("fun x make A ( x y )"), ["y"])
        self.assertEqual(self.free("fun x y"), ["y"])

    def test_a_call_binds_nothing(self):
        self.assertEqual(self.free("call fun x x x"), ["x"])
        self.assertEqual(self.free("call x y"), ["x", "y"])

    def test_a_let_binds_in_all_its_parts(self):
        self.assertEqual(self.free("let x y y x in make A ( x y )"), [])
        self.assertEqual(self.free("let x x in 1"), [])
        self.assertEqual(self.free("let x 1 y x in 1"), [])
        self.assertEqual(self.free("let x y y 1 in 1"), [])
        self.assertEqual(self.free("let x y in z"), ["y", "z"])
        self.assertEqual(self.free("let a d b a c b d c in + a + b + c + d e"), ["e"])

    def test_a_row_binds_in_its_own_term_only(self):
        self.assertEqual(self.free("case x of A ( x ) x end"), ["x"])
        self.assertEqual(self.free("case 1 of A ( x ) x of B ( ) x end"), ["x"])
        self.assertEqual(self.free("case 1 of A ( x ) x of B ( ) 1 end"), [])
        self.assertEqual(self.free("case 1 of A ( x y ) + x y of B ( z ) call z y end"), ["y"])

    def test_the_other_forms_bind_nothing(self):
        for text in ("ifzero x y z", "+ x - y z", "tick * x / y z", "waste < x = y z"):
            self.assertEqual(self.free(text), ["x", "y", "z"])

    def test_free_in_one_part_and_bound_in_another(self):
        self.assertEqual(self.free("+ x fun x x"), ["x"])
        self.assertEqual(self.free("+ fun x x x"), ["x"])
        self.assertEqual(self.free("let x fun y y in y"), ["y"])
        self.assertEqual(self.free("ifzero let x 1 in x fun x x x"), ["x"])

    def test_a_name_that_is_bound_again_within_is_bound_behind_it_too(self):
        self.assertEqual(self.free("fun x + fun x x x"), [])

    def test_the_name_that_is_bound_is_not_a_use(self):
        self.assertEqual(self.free("case 1 of A ( x y ) 1 end"), [])
        self.assertEqual(self.free("let x 1 y 2 in 3"), [])


class Captures(unittest.TestCase):
    def captures(self, text, name="x", other="y"):
        return captures(read_term(text), name, other)

    def test_under_each_form_that_binds(self):
        for text in ("fun y x", "let y x in 1", "let y 1 in x", "let z x y 1 in 2",
                     "case 1 of A ( y ) x end", "case 1 of A ( z y ) x end",
                     "case 1 of A ( ) 1 of B ( y ) x end"):
            with self.subTest(text=text):
                self.assertIs(self.captures(text), True)

    def test_each_kind_of_use(self):
        self.assertIs(self.captures("fun y x"), True)
        self.assertIs(self.captures("fun y call 1 x"), True)
        self.assertIs(self.captures("fun y make A ( z x )"), True)

    def test_deep_below_the_binding(self):
        self.assertIs(self.captures("fun y tick + 1 ifzero 2 fun z x 3"), True)

    def test_where_the_other_name_is_not_bound(self):
        for text in ("x", "call x x", "make A ( x y )", "fun z x", "+ x y", "let z x in y"):
            with self.subTest(text=text):
                self.assertIs(self.captures(text), False)

    def test_where_the_name_is_bound_again_between(self):
        for text in ("fun y fun x x", "fun x fun y x", "fun y let x x in x", "let x 1 in fun y x",
                     "fun y case 1 of A ( x ) x end", "case 1 of A ( x ) fun y x end",
                     "let x 1 y x in x", "case 1 of A ( x y ) x end"):
            with self.subTest(text=text):
                self.assertIs(self.captures(text), False)

    def test_where_the_other_name_is_bound_but_not_around_a_free_use(self):
        for text in ("+ x fun y y", "+ fun y 1 x", "call fun y y x", "+ fun y fun x x x",
                     "case x of A ( y ) y end", "case 1 of A ( y ) y of B ( ) x end"):
            with self.subTest(text=text):
                self.assertIs(self.captures(text), False)

    def test_where_the_name_is_not_free_at_all(self):
        for text in ("1", "fun y y", "fun y fun x x", "let y 1 in y", "fun y z", "fun x fun y call y x"):
            with self.subTest(text=text):
                self.assertIs(self.captures(text), False)

    def test_some_free_use_is_enough(self):
        self.assertIs(self.captures("+ x fun y x"), True)
        self.assertIs(self.captures("+ fun y x x"), True)
        self.assertIs(self.captures("+ fun x fun y x fun y x"), True)

    def test_a_name_that_is_bound_again_within_the_capture(self):
        self.assertIs(self.captures("fun y fun y x"), True)
        self.assertIs(self.captures("fun y fun z x"), True)


class DeepTerms(unittest.TestCase):
    """Terms that are deeper than the ones that are read raise no error."""

    def test_depths_around_and_beyond_the_limit(self):
        for deep in (60, 61, 62, 100, 2000):
            with self.subTest(deep=deep):
                term = ticks(deep - 1, X)
                bottom = (0,) * (deep - 1)
                self.assertEqual(depth(term), deep)
                self.assertEqual(size(term), deep)
                self.assertEqual(places(term)[-1], bottom)
                self.assertEqual(len(places(term)), deep)
                self.assertEqual(part_at(term, bottom), X)
                self.assertIsNone(part_at(term, bottom + (0,)))
                self.assertEqual(len(parts(term)), 1)
                self.assertEqual(free_names(term), ["x"])
                self.assertIs(captures(("fun", "y", term), "x", "y"), True)
                self.assertIs(captures(term, "x", "y"), False)
                changed = put_at(term, bottom, HOLE)
                self.assertEqual(part_at(changed, bottom), HOLE)
                self.assertEqual(depth(changed), deep)

    def test_each_form_with_parts_beyond_the_limit(self):
        around = [
            lambda term: ("fun", "a", term),
            lambda term: ("call", term, "b"),
            lambda term: ("let", (("c", ONE), ("d", term)), TWO),
            lambda term: ("let", (("c", ONE),), term),
            lambda term: ("case", term, (("A", (), ONE),)),
            lambda term: ("case", ONE, (("A", (), ONE), ("B", ("e",), term))),
            lambda term: ("ifzero", ONE, term, TWO),
            lambda term: ("-", ONE, term),
            lambda term: ("waste", term),
        ]
        bottom = ("make", "A", ("x",))
        for form in around:
            term = bottom
            for _ in range(69):
                term = form(term)
            self.assertEqual(depth(term), 70)
            lowest = [place for place in places(term) if part_at(term, place) == bottom]
            self.assertEqual([len(place) for place in lowest], [69])
            self.assertEqual(put_at(term, lowest[0], bottom), term)
            self.assertEqual(part_at(put_at(term, lowest[0], HOLE), lowest[0]), HOLE)
            self.assertIn("x", free_names(term))


class Interface(unittest.TestCase):
    def test_each_function_is_defined_in_the_file_that_lists_it(self):
        for function in (parts, free_names, size, depth, captures, part_at, put_at, places):
            self.assertEqual(function.__module__, "notslower.terms")
            self.assertIs(getattr(terms, function.__name__), function)

    def test_nothing_that_is_passed_is_changed(self):
        for term, inner in FORMS:
            before = copy.deepcopy(term)
            place = (0,) if inner else ()
            for function in (parts, free_names, size, depth, places):
                first = function(term)
                self.assertEqual(function(term), first)
            captures(term, "x", "y")
            part_at(term, place)
            put_at(term, place, TWO)
            self.assertEqual(term, before)

    def test_what_is_returned_may_be_changed_without_effect(self):
        for function in (parts, free_names, places):
            first = function(LET)
            kept = list(first)
            first.append(None)
            self.assertEqual(function(LET), kept)


if __name__ == "__main__":
    unittest.main()
