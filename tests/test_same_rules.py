"""Point [10]: the rules of the kind "same"."""

import unittest

from notslower.derivation import applied
from notslower.text import read_term

from rule_case import RuleCase


class Rename(RuleCase):
    def test_a_function(self):
        self.changes("rename", "fun x + x y", (0, "x", "z"), "fun z + z y")
        self.changes("rename", "fun x call x x", (0, "x", "z"), "fun z call z z")
        self.changes("rename", "fun x make A ( x y x )", (0, "x", "z"), "fun z make A ( z y z )")
        self.changes("rename", "fun x 1", (0, "x", "z"), "fun z 1")
        self.changes("rename", "fun x + x fun x x", (0, "x", "z"), "fun z + z fun x x")
        self.changes("rename", "fun x fun z z", (0, "x", "z"), "fun z fun z z")
        self.changes("rename", "fun x + x fun z z", (0, "x", "z"), "fun z + z fun z z")

    def test_a_function_does_not_have_the_name(self):
        self.fails("rename", "fun x + x y", (0, "y", "z"), (0, "z", "y"), (0, "z", "w"))

    def test_a_let(self):
        text = "let x + x y y x in call y x"
        self.changes("rename", text, (0, "x", "z"), "let z + z y y z in call y z")
        self.changes("rename", text, (0, "y", "z"), "let x + x z z x in call z x")
        self.changes("rename", "let x 1 in fun x x", (0, "x", "z"), "let z 1 in fun x x")
        self.changes("rename", "let x let x 1 in x in x", (0, "x", "z"), "let z let x 1 in x in z")
        self.fails("rename", text, (0, "z", "w"), (0, "w", "z"))

    def test_a_row_of_a_case(self):
        text = "case x of A ( x y ) + x y of B ( x ) x end"
        self.changes("rename", text, (0, "x", "z"), "case x of A ( z y ) + z y of B ( x ) x end")
        self.changes("rename", text, (0, "y", "z"), "case x of A ( x z ) + x z of B ( x ) x end")
        self.changes("rename", text, (1, "x", "z"), "case x of A ( x y ) + x y of B ( z ) z end")
        self.fails("rename", text, (1, "y", "z"), (0, "w", "z"))

    def test_only_the_row_is_asked(self):
        self.changes("rename", "case w of A ( x ) x of B ( ) w end", (0, "x", "w"),
                     "case w of A ( w ) w of B ( ) w end")
        self.changes("rename", "case 1 of A ( x ) x of B ( x ) fun z x end", (0, "x", "z"),
                     "case 1 of A ( z ) z of B ( x ) fun z x end")
        self.changes("rename", "case 1 of A ( z ) z of B ( x ) x end", (1, "x", "z"),
                     "case 1 of A ( z ) z of B ( z ) z end")

    def test_the_index(self):
        for k in (-7, -1, 0, 1, 99):
            self.changes("rename", "fun x x", (k, "x", "z"), "fun z z")
            self.changes("rename", "let x 1 y x in y", (k, "x", "z"), "let z 1 y z in y")
        text = "case 1 of A ( x ) x of B ( x ) x end"
        self.fails("rename", text, (2, "x", "z"), (3, "x", "z"), (-1, "x", "z"), (-2, "x", "z"), (-3, "x", "z"))

    def test_the_other_name_is_bound_there(self):
        self.fails("rename", "fun x x", (0, "x", "x"))
        self.fails("rename", "fun x 1", (0, "x", "x"))
        self.fails("rename", "let x 1 y 2 in 3", (0, "x", "x"), (0, "x", "y"), (0, "y", "x"))
        self.fails("rename", "case 1 of A ( x y ) 2 end", (0, "x", "x"), (0, "x", "y"), (0, "y", "x"))

    def test_the_other_name_is_free_there(self):
        self.fails("rename", "fun x y", (0, "x", "y"))
        self.fails("rename", "fun x fun z y", (0, "x", "y"))
        self.fails("rename", "let x w in 2", (0, "x", "w"))
        self.fails("rename", "let x 1 y w in 2", (0, "x", "w"))
        self.fails("rename", "let x 1 in w", (0, "x", "w"))
        self.fails("rename", "case 1 of A ( x ) + x w end", (0, "x", "w"))
        self.fails("rename", "case 1 of B ( ) 2 of A ( x ) call x w end", (1, "x", "w"))

    def test_something_captures(self):
        self.fails("rename", "fun x fun z x", (0, "x", "z"))
        self.fails("rename", "fun x let z 1 in call z x", (0, "x", "z"))
        self.fails("rename", "let x fun z x in 1", (0, "x", "z"))
        self.fails("rename", "let y 1 x fun z make A ( x ) in 1", (0, "x", "z"))
        self.fails("rename", "let x 1 in case x of A ( z ) x end", (0, "x", "z"))
        self.fails("rename", "case 1 of A ( x ) fun z x end", (0, "x", "z"))

    def test_other_terms(self):
        for text in ("x", "1", "call x x", "make A ( x )", "ifzero x x x", "+ x x", "tick x", "waste x", "hole",
                     "tick fun x x"):
            self.fails("rename", text, (0, "x", "z"))

    def test_what_it_is_told(self):
        for text in ("fun x x", "let x 1 in x", "case 1 of A ( x ) x end"):
            self.fails("rename", text, (), (0,), (0, "x"), ("x", "z"), (0, "x", "z", "z"), ((0, "x", "z"),))

    def test_what_it_is_told_is_taken_to_be_a_name(self):
        self.assertEqual(applied("rename", read_term("fun x x"), (0, "x", "fun")), ("fun", "fun", ("var", "fun")))
        self.assertEqual(applied("rename", read_term("fun x x"), (0, "x", "longername")),
                         ("fun", "longername", ("var", "longername")))


class Beta(RuleCase):
    def test_it_holds(self):
        self.changes("beta", "call fun x + x z y", (), "tick + y z")
        self.changes("beta", "call fun x x x", (), "tick x")
        self.changes("beta", "call fun x fun y y x", (), "tick fun y y")
        self.changes("beta", "call fun x 1 y", (), "tick 1")
        self.changes("beta", "call fun x call x x y", (), "tick call y y")
        self.changes("beta", "call fun x make A ( x z ) y", (), "tick make A ( y z )")
        self.changes("beta", "call fun x fun y y y", (), "tick fun y y")
        self.changes("beta", "call fun x fun x x y", (), "tick fun x x")
        self.changes("beta", "call fun x + x fun x x y", (), "tick + y fun x x")

    def test_it_captures(self):
        for text in ("fun y x", "let y x in 1", "let y 1 in x", "case 1 of A ( y ) x end", "+ x fun y call y x"):
            self.fails("beta", "call fun x " + text + " y", ())
            self.changes("beta", "call fun x " + text + " w", (), "tick " + text.replace("x", "w"))

    def test_other_terms(self):
        for text in ("call f y", "call tick fun x x y", "call let y 1 in fun x x y", "fun x x", "tick fun x x",
                     "call 1 y", "x", "1", "hole", "make A ( )", "call call fun x x y z"):
            self.fails("beta", text, ())

    def test_what_it_is_told(self):
        self.fails("beta", "call fun x x y", (0,), ("x",), ((),))


class Choose(RuleCase):
    def test_it_holds(self):
        self.changes("choose", "case make A ( ) of A ( ) y end", (), "tick y")
        self.changes("choose", "case make B ( u v ) of A ( ) 1 of B ( x y ) - x y end", (), "tick - u v")
        self.changes("choose", "case make A ( u ) of A ( x ) x of B ( x y ) - x y end", (), "tick u")
        self.changes("choose", "case make A ( u ) of A ( x ) + x fun x x end", (), "tick + u fun x x")
        self.changes("choose", "case make A ( a b c d ) of A ( x y z w ) make B ( w z y x ) end", (),
                     "tick make B ( d c b a )")

    def test_all_at_once(self):
        self.changes("choose", "case make A ( y x ) of A ( x y ) - x call y x end", (), "tick - y call x y")
        self.changes("choose", "case make A ( y z x ) of A ( x y z ) make B ( x y z ) end", (),
                     "tick make B ( y z x )")
        self.changes("choose", "case make A ( u u ) of A ( x y ) + x y end", (), "tick + u u")
        self.changes("choose", "case make A ( x x ) of A ( x y ) + x y end", (), "tick + x x")
        self.changes("choose", "case make A ( x ) of A ( x ) x end", (), "tick x")
        self.changes("choose", "case make A ( x y ) of A ( x y ) let z x in y end", (), "tick let z x in y")

    def test_it_captures(self):
        self.fails("choose", "case make A ( u ) of A ( x ) fun u x end", ())
        self.fails("choose", "case make A ( u v ) of A ( x y ) + x fun v y end", ())
        self.fails("choose", "case make A ( u v ) of A ( x y ) + y fun u x end", ())
        self.fails("choose", "case make A ( y x ) of A ( x y ) fun x y end", ())
        self.fails("choose", "case make A ( x x ) of A ( x y ) fun x y end", ())
        self.fails("choose", "case make B ( u ) of A ( ) 1 of B ( x ) let u x in 1 end", ())

    def test_it_captures_only_uses(self):
        self.changes("choose", "case make A ( u v ) of A ( x y ) fun v x end", (), "tick fun v u")
        self.changes("choose", "case make A ( u ) of A ( x ) fun u u end", (), "tick fun u u")
        self.changes("choose", "case make A ( u ) of A ( x ) 1 of B ( x ) fun u x end", (), "tick 1")
        self.changes("choose", "case make A ( y x ) of A ( x y ) fun x x end", (), "tick fun x x")

    def test_no_row(self):
        self.fails("choose", "case make C ( ) of A ( ) 1 of B ( ) 2 end", ())
        self.fails("choose", "case make A ( ) of A ( x ) 1 end", ())
        self.fails("choose", "case make A ( u ) of A ( ) 1 of B ( x ) x end", ())
        self.fails("choose", "case make A ( u v ) of A ( x ) 1 of B ( x y ) 2 end", ())

    def test_other_terms(self):
        for text in ("case x of A ( ) 1 end", "case 1 of A ( ) 1 end", "case tick make A ( ) of A ( ) 1 end",
                     "case fun x x of A ( ) 1 end", "make A ( )", "tick case make A ( ) of A ( ) 1 end", "x", "1",
                     "ifzero make A ( ) 1 2", "hole", "case hole of A ( ) 1 end",
                     "case waste make A ( ) of A ( ) 1 end"):
            self.fails("choose", text, ())

    def test_what_it_is_told(self):
        self.fails("choose", "case make A ( ) of A ( ) 1 end", (0,), ("A",), ((),))


class Zero(RuleCase):
    def test_it_holds(self):
        self.changes("zero", "ifzero 0 x y", (), "tick x")
        self.changes("zero", "ifzero 1 x y", (), "tick y")
        self.changes("zero", "ifzero 65535 x tick y", (), "tick tick y")

    def test_other_terms(self):
        for text in ("ifzero x 1 2", "ifzero tick 0 1 2", "ifzero make A ( ) 1 2", "ifzero fun x x 1 2",
                     "ifzero hole 1 2", "ifzero - 1 1 2 3", "0", "tick 0", "tick ifzero 0 1 2", "+ 0 1"):
            self.fails("zero", text, ())

    def test_what_it_is_told(self):
        self.fails("zero", "ifzero 0 x y", (0,), ((),), (0, 1))


class Reckon(RuleCase):
    def test_each_operator(self):
        self.changes("reckon", "+ 2 3", (), "tick 5")
        self.changes("reckon", "+ 65535 1", (), "tick 0")
        self.changes("reckon", "- 3 2", (), "tick 1")
        self.changes("reckon", "- 2 3", (), "tick 65535")
        self.changes("reckon", "* 300 300", (), "tick 24464")
        self.changes("reckon", "/ 7 2", (), "tick 3")
        self.changes("reckon", "/ 0 2", (), "tick 0")
        self.changes("reckon", "< 1 2", (), "tick 1")
        self.changes("reckon", "< 2 2", (), "tick 0")
        self.changes("reckon", "= 2 2", (), "tick 1")
        self.changes("reckon", "= 2 1", (), "tick 0")

    def test_a_division_by_0(self):
        self.fails("reckon", "/ 7 0", ())
        self.fails("reckon", "/ 0 0", ())

    def test_other_terms(self):
        for text in ("+ x 1", "+ 1 x", "+ tick 1 1", "+ 1 tick 1", "+ make A ( ) 1", "+ 1 fun x x", "+ + 1 1 1",
                     "+ 1 + 1 1", "tick + 1 1", "1", "x", "ifzero 1 1 1", "hole"):
            self.fails("reckon", text, ())

    def test_what_it_is_told(self):
        self.fails("reckon", "+ 2 3", (5,), ((),), (2, 3))


class FloatLet(RuleCase):
    def test_it_holds(self):
        self.changes("float-let", "call let x 1 in f y", (0,), "let x 1 in call f y")
        self.changes("float-let", "case let x 1 in x of A ( y ) y of B ( ) z end", (0,),
                     "let x 1 in case x of A ( y ) y of B ( ) z end")
        self.changes("float-let", "ifzero let x 1 in x 2 3", (0,), "let x 1 in ifzero x 2 3")
        self.changes("float-let", "tick let x 1 in x", (0,), "let x 1 in tick x")
        self.changes("float-let", "waste let x 1 in x", (0,), "let x 1 in waste x")
        for sign in ("+", "-", "*", "/", "<", "="):
            self.changes("float-let", sign + " let x 1 in x y", (0,), "let x 1 in " + sign + " x y")
            self.changes("float-let", sign + " y let x 1 in x", (1,), "let x 1 in " + sign + " y x")

    def test_several_pairs(self):
        self.changes("float-let", "+ let x y y x z 2 in x 1", (0,), "let x y y x z 2 in + x 1")
        self.fails("float-let", "+ let x 1 y 2 in x y", (0,))
        self.fails("float-let", "+ let y 1 x 2 in x y", (0,))

    def test_a_name_is_used_outside(self):
        self.fails("float-let", "call let y 1 in f y", (0,))
        self.fails("float-let", "case let x 1 in x of A ( y ) x end", (0,))
        self.fails("float-let", "case let x 1 in x of A ( x ) x of B ( ) x end", (0,))
        self.fails("float-let", "ifzero let x 1 in x x 3", (0,))
        self.fails("float-let", "ifzero let x 1 in x 2 fun y x", (0,))
        self.fails("float-let", "+ let x 1 in x x", (0,))
        self.fails("float-let", "+ x let x 1 in x", (1,))
        self.fails("float-let", "+ let x 1 in 2 make A ( x )", (0,))

    def test_a_name_is_bound_outside(self):
        self.changes("float-let", "case let y 1 in x of A ( y ) y end", (0,), "let y 1 in case x of A ( y ) y end")
        self.changes("float-let", "+ let x 1 in x fun x x", (0,), "let x 1 in + x fun x x")
        self.changes("float-let", "+ let x 1 in x let x 2 in x", (1,), "let x 2 in + let x 1 in x x")

    def test_it_is_not_in_front(self):
        self.fails("float-let", "fun y let x 1 in x", (0,))
        self.fails("float-let", "let a let x 1 in x in a", (0,))
        self.fails("float-let", "let a 1 in let x 2 in x", (1,), (0,))
        self.fails("float-let", "let a let x 1 in x b let x 1 in x in let x 1 in x", (0,), (1,), (2,))
        self.fails("float-let", "case 1 of A ( ) let x 1 in x end", (1,))
        self.fails("float-let", "ifzero 1 let x 1 in x let x 1 in x", (1,), (2,))

    def test_the_part_is_no_let(self):
        for text in ("call f y", "tick 1", "waste tick let x 1 in x", "ifzero 1 2 3", "+ 1 let x 1 in x",
                     "case fun y let x 1 in x of A ( ) 1 end", "x", "1", "hole", "make A ( )"):
            self.fails("float-let", text, (0,))
        self.fails("float-let", "+ let x 1 in x 1", (1,))

    def test_the_index(self):
        self.fails("float-let", "tick let x 1 in x", (-1,), (1,), (2,))
        self.fails("float-let", "+ let x 1 in 2 let x 1 in 2", (-1,), (-2,), (2,), (3,))
        self.fails("float-let", "call let x 1 in f y", (-1,), (1,))
        self.fails("float-let", "ifzero let x 1 in 1 let x 1 in 1 let x 1 in 1", (-3,), (-1,), (3,))

    def test_what_it_is_told(self):
        self.fails("float-let", "tick let x 1 in x", (), (0, 0), (0, "x"))


class FloatCost(RuleCase):
    def test_it_holds(self):
        for cost in ("tick", "waste"):
            self.changes("float-cost", "call " + cost + " f y", (0,), cost + " call f y")
            self.changes("float-cost", "case " + cost + " x of A ( y ) y end", (0,), cost + " case x of A ( y ) y end")
            self.changes("float-cost", "ifzero " + cost + " x 2 3", (0,), cost + " ifzero x 2 3")
            self.changes("float-cost", "tick " + cost + " x", (0,), cost + " tick x")
            self.changes("float-cost", "waste " + cost + " x", (0,), cost + " waste x")
            self.changes("float-cost", "let x y in " + cost + " x", (1,), cost + " let x y in x")
            self.changes("float-cost", "let x y z 1 in " + cost + " x", (2,), cost + " let x y z 1 in x")
            for sign in ("+", "-", "*", "/", "<", "="):
                self.changes("float-cost", sign + " " + cost + " x y", (0,), cost + " " + sign + " x y")
                self.changes("float-cost", sign + " x " + cost + " y", (1,), cost + " " + sign + " x y")

    def test_it_is_not_in_front(self):
        self.fails("float-cost", "fun x tick x", (0,))
        self.fails("float-cost", "let x tick 1 in x", (0,))
        self.fails("float-cost", "let x tick 1 in tick x", (0,))
        self.fails("float-cost", "let x 1 y tick 2 in tick x", (0,), (1,))
        self.fails("float-cost", "case 1 of A ( ) tick 2 end", (1,))
        self.fails("float-cost", "ifzero 1 tick 2 waste 3", (1,), (2,))

    def test_the_part_is_no_cost(self):
        for text in ("call f y", "tick 1", "waste 1", "ifzero 1 2 3", "+ 1 tick 2", "case x of A ( ) tick 1 end",
                     "x", "1", "hole", "make A ( )", "call fun x tick x y"):
            self.fails("float-cost", text, (0,))
        self.fails("float-cost", "+ tick 1 1", (1,))
        self.fails("float-cost", "let x 1 in fun y tick x", (1,))

    def test_the_index(self):
        self.fails("float-cost", "tick tick x", (-1,), (1,))
        self.fails("float-cost", "+ tick 1 tick 2", (-1,), (-2,), (2,))
        self.fails("float-cost", "let x 1 in tick x", (-1,), (0,), (2,))
        self.fails("float-cost", "let x 1 y 2 in tick x", (-1,), (0,), (1,), (3,))

    def test_what_it_is_told(self):
        self.fails("float-cost", "tick tick x", (), (0, 0))
        self.fails("float-cost", "let x 1 in tick x", (), (1, 1))


class Join(RuleCase):
    def test_it_holds(self):
        self.changes("join", "let x 1 in let y x in + x y", (), "tick let x 1 y x in + x y")
        self.changes("join", "let x 1 in let y y in x", (), "tick let x 1 y y in x")
        self.changes("join", "let x fun y y in let y 1 in x", (), "tick let x fun y y y 1 in x")
        self.changes("join", "let x 1 in let y 2 in let z 3 in x", (), "tick let x 1 y 2 in let z 3 in x")

    def test_at_most_four_pairs(self):
        self.changes("join", "let a 1 b 2 in let c 3 d 4 in 5", (), "tick let a 1 b 2 c 3 d 4 in 5")
        self.changes("join", "let a 1 b 2 c 3 in let d 4 in 5", (), "tick let a 1 b 2 c 3 d 4 in 5")
        self.changes("join", "let a 1 in let b 2 c 3 d 4 in 5", (), "tick let a 1 b 2 c 3 d 4 in 5")
        self.fails("join", "let a 1 b 2 c 3 in let d 4 e 5 in 6", ())
        self.fails("join", "let a 1 b 2 in let c 3 d 4 e 5 in 6", ())
        self.fails("join", "let a 1 b 2 c 3 d 4 in let e 5 in 6", ())
        self.fails("join", "let a 1 in let b 2 c 3 d 4 e 5 in 6", ())

    def test_a_name_of_both(self):
        self.fails("join", "let x 1 in let x 2 in x", ())
        self.fails("join", "let x 1 y 2 in let z 3 y 4 in 5", ())
        self.fails("join", "let x 1 y 2 in let x 3 z 4 in 5", ())

    def test_a_name_that_is_free_in_the_first_terms(self):
        self.fails("join", "let x y in let y 1 in x", ())
        self.fails("join", "let x 1 y fun a call a z in let w 2 z 1 in x", ())

    def test_other_terms(self):
        for text in ("let x 1 in x", "let x let y 1 in y in x", "let x 1 in tick let y 2 in x", "let x 1 in fun y x",
                     "tick let x 1 in x", "fun x let y 1 in y", "x", "1", "hole"):
            self.fails("join", text, ())

    def test_what_it_is_told(self):
        self.fails("join", "let x 1 in let y x in y", (0,), ((),))


class Branch(RuleCase):
    def test_a_case(self):
        self.changes("branch", "call case b of A ( u ) fun x u of B ( ) f end y", (),
                     "case b of A ( u ) call fun x u y of B ( ) call f y end")
        self.changes("branch", "case case a of A ( x ) x end of B ( y ) y of C ( ) z end", (),
                     "case a of A ( x ) case x of B ( y ) y of C ( ) z end end")
        self.changes("branch", "ifzero case a of A ( x ) x end 1 z", (), "case a of A ( x ) ifzero x 1 z end")
        self.changes("branch", "- case a of A ( x ) x of B ( ) 1 end z", (),
                     "case a of A ( x ) - x z of B ( ) - 1 z end")
        self.changes("branch", "tick case a of A ( x ) x end", (), "case a of A ( x ) tick x end")
        self.changes("branch", "waste case a of A ( x ) x end", (), "case a of A ( x ) waste x end")

    def test_an_ifzero(self):
        self.changes("branch", "call ifzero a b c y", (), "ifzero a call b y call c y")
        self.changes("branch", "case ifzero a b c of A ( x ) x end", (),
                     "ifzero a case b of A ( x ) x end case c of A ( x ) x end")
        self.changes("branch", "ifzero ifzero a b c d e", (), "ifzero a ifzero b d e ifzero c d e")
        for sign in ("+", "-", "*", "/", "<", "="):
            self.changes("branch", sign + " ifzero a b c d", (), "ifzero a " + sign + " b d " + sign + " c d")
        self.changes("branch", "tick ifzero a b c", (), "ifzero a tick b tick c")
        self.changes("branch", "waste ifzero a b c", (), "ifzero a waste b waste c")

    def test_a_name_is_used_outside(self):
        self.fails("branch", "call case b of A ( y ) f end y", ())
        self.fails("branch", "call case b of A ( ) f of B ( x y ) f end y", ())
        self.fails("branch", "+ case b of A ( x ) 1 end x", ())
        self.fails("branch", "ifzero case b of A ( x ) 1 end x 2", ())
        self.fails("branch", "ifzero case b of A ( x ) 1 end 2 fun y x", ())
        self.fails("branch", "case case a of A ( x ) 1 end of B ( y ) x end", ())

    def test_a_name_is_bound_outside(self):
        self.changes("branch", "case case a of A ( x ) x end of B ( x ) x end", (),
                     "case a of A ( x ) case x of B ( x ) x end end")
        self.changes("branch", "+ case x of A ( x ) x end fun x x", (), "case x of A ( x ) + x fun x x end")

    def test_it_is_not_in_front(self):
        self.fails("branch", "+ 1 ifzero a b c", ())
        self.fails("branch", "fun x ifzero a b c", ())
        self.fails("branch", "let x ifzero a b c in x", ())
        self.fails("branch", "let x 1 in ifzero a b c", ())
        self.fails("branch", "case a of A ( ) ifzero a b c end", ())
        self.fails("branch", "ifzero a ifzero a b c 1", ())

    def test_other_terms(self):
        for text in ("tick 1", "call f y", "+ tick ifzero a b c 1", "ifzero a b c", "x", "1", "hole", "make A ( )"):
            self.fails("branch", text, ())

    def test_what_it_is_told(self):
        self.fails("branch", "tick ifzero a b c", (0,), ((),))


class Sink(RuleCase):
    def test_a_case(self):
        self.changes("sink", "let x 1 in case y of A ( u ) + u x of B ( ) 3 end", (),
                     "case y of A ( u ) let x 1 in + u x of B ( ) let x 1 in 3 end")
        self.changes("sink", "let x z z x in case y of A ( ) x end", (), "case y of A ( ) let x z z x in x end")

    def test_an_ifzero(self):
        self.changes("sink", "let x 1 y 2 in ifzero z x y", (), "ifzero z let x 1 y 2 in x let x 1 y 2 in y")

    def test_a_name_of_the_let_is_free_in_the_first_part(self):
        self.fails("sink", "let x 1 in case x of A ( ) 2 end", ())
        self.fails("sink", "let x 1 y 2 in ifzero + 1 y 2 3", ())
        self.fails("sink", "let x 1 y 2 in ifzero call f x 2 3", ())
        self.changes("sink", "let x 1 in ifzero call fun x x y 2 3", (),
                     "ifzero call fun x x y let x 1 in 2 let x 1 in 3")

    def test_a_name_of_a_row_is_one_of_the_let(self):
        self.fails("sink", "let x 1 in case y of A ( x ) 2 end", ())
        self.fails("sink", "let z 1 x 2 in case y of A ( ) 1 of B ( u x ) 2 end", ())

    def test_a_name_of_a_row_is_free_in_a_term_of_the_let(self):
        self.fails("sink", "let x u in case y of A ( u ) x end", ())
        self.fails("sink", "let x 1 z call f u in case y of A ( ) 1 of B ( v u ) 2 end", ())
        self.changes("sink", "let x fun u u in case y of A ( u ) u end", (),
                     "case y of A ( u ) let x fun u u in u end")

    def test_other_terms(self):
        for text in ("let x 1 in x", "let x ifzero a b c in x", "let x 1 in tick ifzero a b c", "tick ifzero a b c",
                     "fun x ifzero a b c", "let x 1 in let y 2 in ifzero a b c", "x", "1", "hole"):
            self.fails("sink", text, ())

    def test_what_it_is_told(self):
        self.fails("sink", "let x 1 in ifzero a b c", (0,), ((),))


class Order(RuleCase):
    def test_it_holds(self):
        text = "let x 1 y x z 3 in + x z"
        self.changes("order", text, ((0, 1, 2),), text)
        self.changes("order", text, ((2, 0, 1),), "let z 3 x 1 y x in + x z")
        self.changes("order", text, ((1, 2, 0),), "let y x z 3 x 1 in + x z")
        self.changes("order", text, ((2, 1, 0),), "let z 3 y x x 1 in + x z")
        self.changes("order", "let x 1 in x", ((0,),), "let x 1 in x")
        self.changes("order", "let a 1 b 2 c 3 d 4 in 5", ((3, 1, 0, 2),), "let d 4 b 2 a 1 c 3 in 5")

    def test_other_indexes(self):
        self.fails("order", "let x 1 y 2 z 3 in x", ((0, 0, 1),), ((0, 1),), ((0, 1, 2, 3),), ((0, 1, 2, 2),),
                   ((0, 1, 3),), ((1, 2, 3),), ((0, 1, -1),), ((-3, -2, -1),), ((),), ((0,),))
        self.fails("order", "let x 1 in x", ((),), ((1,),), ((0, 0),), ((-1,),))

    def test_other_terms(self):
        for text in ("fun x x", "case 1 of A ( ) 1 of B ( ) 2 end", "tick let x 1 in x", "x", "1", "hole"):
            self.fails("order", text, ((0,),), ((),), ((0, 1),))

    def test_what_it_is_told(self):
        self.fails("order", "let x 1 y 2 in x", (), (0, 1), ((0, 1), (0, 1)), ((0, 1), 0), ([0, 1],))


class Copy(RuleCase):
    def test_it_holds(self):
        self.changes("copy", "let f fun x x in call f y", ("f", (1, 0)), "let f fun x x in call tick fun x x y")
        self.changes("copy", "let f 7 in f", ("f", (1,)), "let f 7 in tick 7")
        self.changes("copy", "let a 2 f make B ( a ) in + a f", ("f", (2, 1)),
                     "let a 2 f make B ( a ) in + a tick make B ( a )")
        self.changes("copy", "let f 7 in + f f", ("f", (1, 1)), "let f 7 in + f tick 7")
        self.changes("copy", "let f fun x call f x in f", ("f", (1,)), "let f fun x call f x in tick fun x call f x")

    def test_in_the_term_of_another_pair(self):
        self.changes("copy", "let f 1 g + f 2 in g", ("f", (1, 0)), "let f 1 g + tick 1 2 in g")
        self.changes("copy", "let g + f 2 f 1 in g", ("f", (0, 0)), "let g + tick 1 2 f 1 in g")

    def test_in_the_term_of_the_pair_itself(self):
        self.fails("copy", "let f fun x f in f", ("f", (0, 0)))
        self.fails("copy", "let a 1 f fun x + 1 f in f", ("f", (1, 0, 1)))
        self.changes("copy", "let f fun x f in f", ("f", (1,)), "let f fun x f in tick fun x f")

    def test_it_is_no_value(self):
        for text in ("tick 1", "y", "+ 1 2", "hole", "call g y", "let y 1 in 2", "ifzero 1 2 3", "waste 1"):
            self.fails("copy", "let f " + text + " in f", ("f", (1,)))

    def test_the_use_is_bound_by_something_else(self):
        self.fails("copy", "let f 1 in let f 2 in f", ("f", (1, 1)))
        self.fails("copy", "let f 1 in let f f in 2", ("f", (1, 0)))
        self.fails("copy", "let f 1 in let g f f 2 in 2", ("f", (1, 0)))
        self.fails("copy", "let f 1 in fun f f", ("f", (1, 0)))
        self.fails("copy", "let f 1 in tick fun f + f 1", ("f", (1, 0, 0, 0)))
        self.fails("copy", "let f 1 in case a of A ( f ) f end", ("f", (1, 1)))
        self.changes("copy", "let f 1 in case f of A ( f ) f end", ("f", (1, 0)),
                     "let f 1 in case tick 1 of A ( f ) f end")
        self.changes("copy", "let f 1 in + f fun f f", ("f", (1, 0)), "let f 1 in + tick 1 fun f f")

    def test_a_free_name_of_the_value_is_bound_between(self):
        self.fails("copy", "let f fun x + x u in fun u f", ("f", (1, 0)))
        self.fails("copy", "let f make A ( u ) in let u 1 in f", ("f", (1, 1)))
        self.fails("copy", "let f make A ( u ) in let v f u 1 in 1", ("f", (1, 0)))
        self.fails("copy", "let f make A ( v u ) in case a of A ( ) 1 of B ( u ) f end", ("f", (1, 2)))
        self.fails("copy", "let f make A ( g ) g 1 in fun g f", ("f", (2, 0)))
        self.fails("copy", "let f make A ( u ) g fun u f in 1", ("f", (1, 0)))
        self.fails("copy", "let f make A ( u ) in tick fun u tick f", ("f", (1, 0, 0, 0)))

    def test_another_name_is_bound_between(self):
        self.changes("copy", "let f fun x u in fun x f", ("f", (1, 0)), "let f fun x u in fun x tick fun x u")
        self.changes("copy", "let f fun x x in let x 1 in f", ("f", (1, 1)),
                     "let f fun x x in let x 1 in tick fun x x")
        self.changes("copy", "let f make A ( g ) g 1 in fun h f", ("f", (2, 0)),
                     "let f make A ( g ) g 1 in fun h tick make A ( g )")

    def test_another_name_stands_there(self):
        self.fails("copy", "let f 1 in + f g", ("f", (1, 1)), ("g", (1, 1)), ("g", (1, 0)))
        self.fails("copy", "let f 1 g 2 in + f g", ("f", (2, 1)), ("g", (2, 0)))
        self.fails("copy", "let f 1 in g", ("f", (1,)), ("g", (1,)))

    def test_no_variable_stands_there(self):
        self.fails("copy", "let f 1 in call g f", ("f", (1,)), ("f", ()), ("f", (0,)))
        self.fails("copy", "let f 1 in make A ( f )", ("f", (1,)))
        self.fails("copy", "let f 1 in tick f", ("f", (1,)))

    def test_places_that_there_are_not(self):
        self.fails("copy", "let f 1 in f", ("f", (2,)), ("f", (-1,)), ("f", (1, 0)), ("f", (1, -1)), ("f", (9, 9)))
        self.fails("copy", "let f 1 in + f f", ("f", (1, 2)), ("f", (1, -1)), ("f", (-1, 0)), ("f", (-1, -1)))

    def test_other_terms(self):
        self.fails("copy", "fun f f", ("f", (0,)))
        self.fails("copy", "tick let f 1 in f", ("f", (0, 1)), ("f", (1,)))
        self.fails("copy", "f", ("f", ()))
        self.fails("copy", "case 1 of A ( f ) f end", ("f", (1,)))

    def test_what_it_is_told(self):
        self.fails("copy", "let f 1 in f", (), ("f",), ((1,),), ("f", (1,), ()), ("f", (1,), (1,)))


class Spoil(RuleCase):
    def test_it_holds(self):
        self.changes("spoil", "let x tick y in + 1 z", (), "waste + 1 z")
        self.changes("spoil", "let x x in 1", (), "waste 1")
        self.changes("spoil", "let x 1 in fun x x", (), "waste fun x x")
        self.changes("spoil", "let x 1 in hole", (), "waste hole")

    def test_the_name_is_free(self):
        for text in ("x", "call f x", "make A ( x )", "tick fun y x", "+ x fun x x"):
            self.fails("spoil", "let x 1 in " + text, ())

    def test_other_terms(self):
        for text in ("let x 1 y 2 in 3", "waste 1", "tick let x 1 in 2", "fun x 1", "x", "1", "hole"):
            self.fails("spoil", text, ())

    def test_what_it_is_told(self):
        self.fails("spoil", "let x 1 in 2", (0,), ("x",), ((),))


if __name__ == "__main__":
    unittest.main()
