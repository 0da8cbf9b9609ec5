"""Point [10]: the rules of the kind "better"."""

import unittest

from rule_case import RuleCase


class Unused(RuleCase):
    def test_it_holds(self):
        text = "let x 1 y 2 z 3 in y"
        self.changes("unused", text, (("x",),), "let y 2 z 3 in y")
        self.changes("unused", text, (("z",),), "let x 1 y 2 in y")
        self.changes("unused", text, (("x", "z"),), "let y 2 in y")
        self.changes("unused", text, (("z", "x"),), "let y 2 in y")
        self.changes("unused", "let x y y x z 1 in z", (("x", "y"),), "let z 1 in z")

    def test_no_pair_is_left(self):
        self.changes("unused", "let x 1 in 2", (("x",),), "2")
        self.changes("unused", "let x x in tick 2", (("x",),), "tick 2")
        self.changes("unused", "let x 1 y x in 5", (("y", "x"),), "5")
        self.changes("unused", "let a 1 b 2 c 3 d 4 in e", (("a", "b", "c", "d"),), "e")

    def test_the_same_name_twice(self):
        self.changes("unused", "let x 1 y 2 in y", (("x", "x"),), "let y 2 in y")
        self.changes("unused", "let x 1 y 2 in 3", (("x", "y", "x", "y"),), "3")

    def test_a_name_that_the_let_has_not(self):
        self.fails("unused", "let x 1 y 2 in 3", (("q",),), (("x", "q"),), (("q", "x"),), (("x", "y", "q"),))

    def test_no_names(self):
        self.fails("unused", "let x 1 in 2", ((),))

    def test_a_name_is_free_in_the_last_part(self):
        self.fails("unused", "let x 1 y 2 in y", (("y",),), (("x", "y"),))
        self.fails("unused", "let x 1 in call f x", (("x",),))
        self.fails("unused", "let x 1 in tick fun y make A ( x )", (("x",),))
        self.changes("unused", "let x 1 in fun x x", (("x",),), "fun x x")

    def test_a_name_is_free_in_a_remaining_term(self):
        self.fails("unused", "let x 1 y x in 5", (("x",),))
        self.fails("unused", "let x 1 y x z y in z", (("x", "y"),))
        self.changes("unused", "let x 1 y x in 5", (("y",),), "let x 1 in 5")
        self.changes("unused", "let x 1 y fun x x in y", (("x",),), "let y fun x x in y")

    def test_other_terms(self):
        for text in ("fun x 1", "case 1 of A ( x ) 1 end", "tick let x 1 in 2", "x", "1", "hole"):
            self.fails("unused", text, (("x",),), ((),))

    def test_what_it_is_told(self):
        self.fails("unused", "let x 1 y 2 in 3", (), ("x", "y"), (("x",), ("y",)), (("x",), 0), ("x",), (["x"],))


class Once(RuleCase):
    def test_it_holds(self):
        self.changes("once", "let x + a b in * x 2", (), "* + a b 2")
        self.changes("once", "let x tick 1 in x", (), "tick 1")
        self.changes("once", "let x fun a a in call x y", (), "call fun a a y")
        self.changes("once", "let x y in case 1 of A ( ) 2 of B ( z ) x end", (), "case 1 of A ( ) 2 of B ( z ) y end")
        self.changes("once", "let x hole in tick x", (), "tick hole")

    def test_in_the_term_of_a_pair(self):
        self.changes("once", "let x tick 1 in let y x in + y y", (), "let y tick 1 in + y y")
        self.changes("once", "let x tick 1 in let y + x y in + y y", (), "let y + tick 1 y in + y y")

    def test_another_number_of_uses(self):
        self.fails("once", "let x 1 in 2", ())
        self.fails("once", "let x 1 in fun x x", ())
        self.fails("once", "let x 1 in + x x", ())
        self.fails("once", "let x 1 in call x x", ())
        self.fails("once", "let x 1 in + x make A ( x )", ())
        self.fails("once", "let x 1 in ifzero 0 x x", ())
        self.fails("once", "let x 1 in + x fun y x", ())

    def test_uses_that_are_not_free_do_not_count(self):
        self.changes("once", "let x 1 in + x fun x x", (), "+ 1 fun x x")
        self.changes("once", "let x 1 in + let x 2 in x x", (), "+ let x 2 in x 1")
        self.changes("once", "let x 1 in case x of A ( x ) x end", (), "case 1 of A ( x ) x end")

    def test_the_use_is_no_variable(self):
        self.fails("once", "let x 1 in call f x", ())
        self.fails("once", "let x 1 in make A ( x )", ())
        self.fails("once", "let x 1 in make A ( x x )", ())

    def test_it_stands_in_a_function(self):
        self.fails("once", "let x 1 in fun y x", ())
        self.fails("once", "let x 1 in tick fun y + 1 x", ())
        self.fails("once", "let x 1 in fun y tick x", ())
        self.fails("once", "let x 1 in let f fun y x in call f z", ())
        self.changes("once", "let x 1 in ifzero x fun y y 2", (), "ifzero 1 fun y y 2")

    def test_the_name_is_free_in_its_term(self):
        self.fails("once", "let x x in x", ())
        self.fails("once", "let x + 1 x in x", ())
        self.fails("once", "let x fun y call y x in tick x", ())
        self.changes("once", "let x fun x x in tick x", (), "tick fun x x")

    def test_a_free_name_of_the_term_is_bound_there(self):
        self.fails("once", "let x y in let y 1 in x", ())
        self.fails("once", "let x y in let y x in 1", ())
        self.fails("once", "let x + 1 call f y in case a of A ( ) 1 of B ( z y ) tick x end", ())
        self.changes("once", "let x y in + x let y 1 in y", (), "+ y let y 1 in y")
        self.changes("once", "let x y in case x of A ( y ) y end", (), "case y of A ( y ) y end")
        self.changes("once", "let x fun y y in let y 1 in x", (), "let y 1 in fun y y")

    def test_other_terms(self):
        for text in ("let x 1 y 2 in x", "fun x x", "tick let x 1 in x", "x", "1", "hole", "case 1 of A ( x ) x end"):
            self.fails("once", text, ())

    def test_what_it_is_told(self):
        self.fails("once", "let x 1 in x", (0,), ("x",), ((),))


class Alias(RuleCase):
    def test_it_holds(self):
        self.changes("alias", "let x y in + x call x x", (), "+ y call y y")
        self.changes("alias", "let x y in make A ( x z y )", (), "make A ( y z y )")
        self.changes("alias", "let x y in 1", (), "1")
        self.changes("alias", "let x y in fun x x", (), "fun x x")
        self.changes("alias", "let x y in fun z x", (), "fun z y")
        self.changes("alias", "let x y in fun y y", (), "fun y y")

    def test_a_name_for_itself(self):
        self.fails("alias", "let x x in x", ())
        self.fails("alias", "let x x in 1", ())

    def test_it_captures(self):
        for text in ("fun y x", "let y x in 1", "let y 1 in call y x", "case 1 of A ( y ) make B ( x ) end"):
            self.fails("alias", "let x y in " + text, ())

    def test_other_terms(self):
        for text in ("let x 1 in x", "let x tick y in x", "let x y z 1 in x", "let x y z w in x", "fun x y",
                     "tick let x y in x", "x", "1", "hole", "let x fun y y in x"):
            self.fails("alias", text, ())

    def test_what_it_is_told(self):
        self.fails("alias", "let x y in x", (0,), ("y",), ((),))


class Into(RuleCase):
    def test_it_holds(self):
        self.changes("into", "let p 1 q p in let x + p q in * x x", (), "let x let p 1 q p in + p q in * x x")
        self.changes("into", "let p 1 in let x + p x in x", (), "let x let p 1 in + p x in x")
        self.changes("into", "let p 1 in let x 2 in 3", (), "let x let p 1 in 2 in 3")

    def test_the_name_is_one_of_the_first_let(self):
        self.fails("into", "let x 1 in let x 2 in 3", ())
        self.fails("into", "let p 1 x 2 in let x p in 3", ())

    def test_the_name_is_free_in_a_term_of_the_first_let(self):
        self.fails("into", "let p x in let x p in x", ())
        self.fails("into", "let p 1 q fun y call y x in let x p in x", ())
        self.changes("into", "let p fun x x in let x p in x", (), "let x let p fun x x in p in x")

    def test_a_name_of_the_first_let_is_free_at_the_end(self):
        self.fails("into", "let p 1 in let x p in + x p", ())
        self.fails("into", "let p 1 q 2 in let x p in call x q", ())
        self.changes("into", "let p 1 in let x p in fun p p", (), "let x let p 1 in p in fun p p")

    def test_the_second_let_has_one_pair(self):
        self.fails("into", "let p 1 in let x p y 2 in x", ())
        self.fails("into", "let p 1 in p", ())
        self.fails("into", "let p 1 in tick let x p in x", ())

    def test_other_terms(self):
        for text in ("let p let x 1 in x in p", "fun p let x p in x", "tick let p 1 in let x p in x", "x", "1",
                     "hole", "tick let x 1 in x"):
            self.fails("into", text, ())

    def test_what_it_is_told(self):
        self.fails("into", "let p 1 in let x p in x", (0,), ("x",), ((),))


class Costs(RuleCase):
    def test_untick(self):
        self.changes("untick", "tick x", (), "x")
        self.changes("untick", "tick tick 1", (), "tick 1")
        self.changes("untick", "tick waste 1", (), "waste 1")
        for text in ("waste 1", "waste tick 1", "x", "1", "hole", "fun x tick x", "+ tick 1 tick 2"):
            self.fails("untick", text, ())
        self.fails("untick", "tick x", (0,), ((),))

    def test_cheaper(self):
        self.changes("cheaper", "waste x", (), "tick x")
        self.changes("cheaper", "waste waste 1", (), "tick waste 1")
        for text in ("tick 1", "tick waste 1", "x", "1", "hole", "fun x waste x", "+ waste 1 waste 2"):
            self.fails("cheaper", text, ())
        self.fails("cheaper", "waste x", (0,), ((),))


if __name__ == "__main__":
    unittest.main()
