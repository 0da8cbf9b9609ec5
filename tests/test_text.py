"""Points [2] and [3], and the interface of notslower.text."""

import copy
import unittest

from notslower import text as text_module
from notslower.errors import BadText, TermError
from notslower.terms import depth
from notslower.text import read_term, term_text

KEY_WORDS = ("fun", "call", "let", "in", "make", "case", "of", "end", "ifzero", "tick", "waste", "hole")
OPERATORS = ("+", "-", "*", "/", "<", "=")
X, Y = ("var", "x"), ("var", "y")
ONE, TWO = ("number", 1), ("number", 2)

# Each row of the table of terms, with the smallest and the largest number of pairs, rows and names.
TABLE = [
    ("x", X),
    ("1", ONE),
    ("fun x y", ("fun", "x", Y)),
    ("call x y", ("call", X, "y")),
    ("call fun x x y", ("call", ("fun", "x", X), "y")),
    ("let x 1 in x", ("let", (("x", ONE),), X)),
    ("let x 1 y x in y", ("let", (("x", ONE), ("y", X)), Y)),
    ("let x 1 y 2 z x w y in 2",
     ("let", (("x", ONE), ("y", TWO), ("z", X), ("w", Y)), TWO)),
    ("make A ( )", ("make", "A", ())),
    ("make A ( x )", ("make", "A", ("x",))),
    ("make NIL ( x y x y )", ("make", "NIL", ("x", "y", "x", "y"))),
    ("case x of A ( ) 1 end", ("case", X, (("A", (), ONE),))),
    ("case x of A ( x y ) y of B ( ) 1 end", ("case", X, (("A", ("x", "y"), Y), ("B", (), ONE)))),
    ("case 1 of A ( a b c d ) 1 of B ( x ) x of C ( ) 2 of D ( y x ) y end",
     ("case", ONE, (("A", ("a", "b", "c", "d"), ONE), ("B", ("x",), X), ("C", (), TWO), ("D", ("y", "x"), Y)))),
    ("ifzero x 1 2", ("ifzero", X, ONE, TWO)),
    ("tick x", ("tick", X)),
    ("waste x", ("waste", X)),
    ("hole", ("hole",)),
] + [(f"{sign} x 2", (sign, X, TWO)) for sign in OPERATORS]

LONGER = [
    ("let id fun x x y 7 in call id y",
     ("let", (("id", ("fun", "x", X)), ("y", ("number", 7))), ("call", ("var", "id"), "y"))),
    ("+ * 1 2 - x y", ("+", ("*", ONE, TWO), ("-", X, Y))),
    ("fun x fun x x", ("fun", "x", ("fun", "x", X))),
    ("let x let x 1 in x in let x 2 in x",
     ("let", (("x", ("let", (("x", ONE),), X)),), ("let", (("x", TWO),), X))),
    ("case case x of A ( ) 1 end of A ( y ) case y of A ( y ) y end end",
     ("case", ("case", X, (("A", (), ONE),)), (("A", ("y",), ("case", Y, (("A", ("y",), Y),))),))),
    ("ifzero ifzero x 1 2 tick waste hole call call x y x",
     ("ifzero", ("ifzero", X, ONE, TWO), ("tick", ("waste", ("hole",))), ("call", ("call", X, "y"), "x"))),
]

SAMPLES = TABLE + LONGER

# Words of every kind, and words that fit nowhere.
WORDS = KEY_WORDS + OPERATORS + (
    "(", ")", "x", "y", "q", "abcdef", "abcdefg", "A", "B", "Q", "ABCDEF", "ABCDEFG",
    "0", "1", "65535", "65536", "00", "01", "123456", "", "Ab", "x1", "\t", "\n", "x\n", "\tx", "!", "()", "-1", "+1")

# Texts with a depth of two more than that of what stands in the place of the sign @: each form of
# term, and each of its parts.
DEEPER = [
    "fun a @", "call @ a", "let a @ in 1", "let a 1 b @ in 1", "let a 1 in @", "case @ of A ( ) 1 end",
    "case 1 of A ( a ) @ end", "case 1 of A ( ) 1 of B ( b ) @ end", "ifzero @ 1 2", "ifzero 1 @ 2",
    "ifzero 1 2 @", "tick @", "waste @"] + [f"{sign} {rest}" for sign in OPERATORS for rest in ("@ 1", "1 @")]

FLAT = ["x", "1", "make A ( )", "make A ( x y )", "hole"]


class TextCase(unittest.TestCase):
    def at(self, text):
        """The index that reading the text is refused at."""
        with self.assertRaises(BadText) as caught:
            read_term(text)
        return caught.exception.at

    def refused(self, text, at):
        with self.subTest(text=text):
            self.assertEqual(self.at(text), at)

    def read_or_refused(self, words):
        """The index that the text of the words is refused at, or None if it is read and written again."""
        text = " ".join(words)
        try:
            term = read_term(text)
        except BadText as error:
            return error.at
        self.assertEqual(term_text(term), text)
        return None

    def accepted(self, text, term):
        with self.subTest(text=text):
            self.assertEqual(read_term(text), term)
            self.assertEqual(term_text(term), text)


class Table(TextCase):
    def test_each_row_is_read_and_written_again(self):
        for text, term in SAMPLES:
            self.accepted(text, term)

    def test_what_is_read_are_tuples(self):
        def check(value):
            self.assertIn(type(value), (tuple, str, int))
            if type(value) is tuple:
                for inner in value:
                    check(inner)
        for text, _ in SAMPLES:
            check(read_term(text))

    def test_what_is_written_is_a_string(self):
        for _, term in SAMPLES:
            self.assertIs(type(term_text(term)), str)

    def test_terms_that_differ_have_texts_that_differ(self):
        self.assertEqual(len({term_text(term) for _, term in SAMPLES}), len(SAMPLES))

    def test_a_text_that_ends_too_early_is_refused_at_the_number_of_its_words(self):
        for text, _ in SAMPLES:
            words = text.split(" ")
            for many in range(len(words)):
                self.refused(" ".join(words[:many]), many)

    def test_a_text_that_goes_on_too_long_is_refused_at_the_first_word_too_many(self):
        for text, _ in SAMPLES:
            for word in WORDS:
                self.refused(f"{text} {word}", len(text.split(" ")))

    def test_the_words_before_the_one_that_is_refused_begin_some_text(self):
        # So they are a text themselves, or refused only because they end; with one word more, at that word again.
        for text, _ in SAMPLES:
            words = text.split(" ")
            for k in range(len(words)):
                for word in WORDS:
                    changed = words[:k] + [word] + words[k + 1:]
                    at = self.read_or_refused(changed)
                    if at is not None:
                        self.assertIn(self.read_or_refused(changed[:at]), (None, at))
                        self.assertEqual(self.read_or_refused(changed[:at + 1]), at)


class Names(TextCase):
    def test_one_letter_and_six(self):
        for name in ("a", "z", "m", "abcdef", "zzzzzz", "funs", "cal", "letin", "inn", "o", "ends", "holes"):
            self.accepted(name, ("var", name))
            self.accepted(f"fun {name} 1", ("fun", name, ONE))
            self.accepted(f"call 1 {name}", ("call", ONE, name))
            self.accepted(f"let {name} 1 in 2", ("let", ((name, ONE),), TWO))
            self.accepted(f"make A ( {name} )", ("make", "A", (name,)))
            self.accepted(f"case 1 of A ( {name} ) 1 end", ("case", ONE, (("A", (name,), ONE),)))

    def test_words_that_are_no_names(self):
        others = ("", "abcdefg", "abcdefgh", "A", "aB", "Ab", "a1", "1a", "1", "a_b", "_", "a.", "-", "(", ")",
                  "\t", "\n", "a\n", "\na", "a\t", "{", "`", "@", "[", "|", "~", "!", "'")
        for word in others + KEY_WORDS:
            self.refused(f"fun {word} 1", 1)
            self.refused(f"call 1 {word}", 2)
            self.refused(f"let {word} 1 in 2", 1)
            if word != "in":
                self.refused(f"let a 1 {word} 1 in 2", 3)
            if word != ")":
                self.refused(f"make A ( {word} )", 3)
                self.refused(f"make A ( a {word} )", 4)
                self.refused(f"case 1 of A ( {word} ) 1 end", 5)
                self.refused(f"case 1 of A ( a {word} ) 1 end", 6)

    def test_key_words_are_no_variables(self):
        for word in ("in", "of", "end"):
            self.refused(word, 0)
            self.refused(f"tick {word}", 1)
        for word in ("fun", "call", "let", "make", "case", "ifzero", "tick", "waste"):
            self.refused(word, 1)

    def test_constructors_of_one_letter_and_six(self):
        for word in ("A", "Z", "ABCDEF", "ZZZZZZ", "FUN", "LET"):
            self.accepted(f"make {word} ( )", ("make", word, ()))
            self.accepted(f"case 1 of {word} ( ) 1 end", ("case", ONE, ((word, (), ONE),)))

    def test_words_that_are_no_constructors(self):
        words = ("", "ABCDEFG", "a", "Aa", "aA", "A1", "1", "(", ")", "A_B", "\n", "A\n", "\tA", "[", "@")
        for word in words + KEY_WORDS:
            self.refused(f"make {word} ( )", 1)
            self.refused(f"case 1 of {word} ( ) 1 end", 3)
            self.refused(f"case 1 of A ( ) 1 of {word} ( ) 1 end", 8)

    def test_a_constructor_is_no_term(self):
        self.refused("A", 0)
        self.refused("tick A", 1)


class Numbers(TextCase):
    def test_the_ends_of_what_is_a_number(self):
        for number in (0, 1, 9, 10, 99, 12345, 59999, 60000, 65534, 65535):
            self.accepted(str(number), ("number", number))
            self.accepted(f"+ {number} {number}", ("+", ("number", number), ("number", number)))

    def test_words_that_are_no_numbers(self):
        for word in ("65536", "65537", "70000", "99999", "100000", "000001", "00", "01", "007", "00000", "+1", "-1",
                     "1.", "1a", "0x1", "1_0", "1\n", "\n1", "1\t"):
            self.refused(word, 0)
            self.refused(f"+ 1 {word}", 2)
            self.refused(f"let x {word} in x", 2)

    def test_words_with_very_many_digits(self):
        for many in (6, 60, 5000):
            self.refused("9" * many, 0)
            self.refused("+ 1 " + "0" * many, 2)

    def test_a_number_is_an_integer(self):
        self.assertIs(type(read_term("65535")[1]), int)


class Lengths(TextCase):
    def test_pairs_of_a_let(self):
        self.refused("let in 1", 1)
        self.accepted("let a 1 in 1", ("let", (("a", ONE),), ONE))
        self.accepted("let a 1 b 1 c 1 d 1 in 1", ("let", tuple((name, ONE) for name in "abcd"), ONE))
        self.refused("let a 1 b 1 c 1 d 1 e 1 in 1", 9)

    def test_a_name_twice_among_the_pairs_of_a_let(self):
        self.refused("let a 1 a 2 in 1", 3)
        self.refused("let a 1 b 2 a 3 in 1", 5)
        self.refused("let a 1 b 2 b 3 in 1", 5)
        self.refused("let a 1 b 2 c 3 a 4 in 1", 7)
        self.refused("let a 1 b 2 c 3 c 4 in 1", 7)

    def test_rows_of_a_case(self):
        self.refused("case 1 end", 2)
        self.refused("case 1 1", 2)
        self.refused("case 1 A ( ) 1 end", 2)
        self.accepted("case 1 of A ( ) 1 end", ("case", ONE, (("A", (), ONE),)))
        rows = " ".join(f"of {name} ( ) 1" for name in "ABCD")
        self.accepted(f"case 1 {rows} end", ("case", ONE, tuple((name, (), ONE) for name in "ABCD")))
        self.refused(f"case 1 {rows} of E ( ) 1 end", 22)
        self.refused(f"case 1 {rows} in", 22)

    def test_a_constructor_twice_among_the_rows_of_a_case(self):
        self.refused("case 1 of A ( ) 1 of A ( ) 2 end", 8)
        self.refused("case 1 of A ( ) 1 of A ( x ) 2 end", 8)
        self.refused("case 1 of A ( ) 1 of B ( ) 2 of A ( ) 3 end", 13)
        self.refused("case 1 of A ( ) 1 of B ( ) 2 of B ( ) 3 end", 13)
        self.refused("case 1 of A ( ) 1 of B ( ) 2 of C ( ) 3 of A ( ) 4 end", 18)

    def test_names_of_a_row(self):
        for names in ((), ("a",), ("a", "b"), ("a", "b", "c"), ("a", "b", "c", "d")):
            text = " ".join(("case 1 of A (",) + names + (") 1 end",))
            self.accepted(text, ("case", ONE, (("A", names, ONE),)))
        self.refused("case 1 of A ( a b c d e ) 1 end", 9)

    def test_a_name_twice_among_the_names_of_a_row(self):
        self.refused("case 1 of A ( a a ) 1 end", 6)
        self.refused("case 1 of A ( a b a ) 1 end", 7)
        self.refused("case 1 of A ( a b c a ) 1 end", 8)
        self.refused("case 1 of A ( a b c c ) 1 end", 8)

    def test_the_same_name_in_two_rows(self):
        self.accepted("case 1 of A ( a ) a of B ( a ) a end",
                      ("case", ONE, (("A", ("a",), ("var", "a")), ("B", ("a",), ("var", "a")))))

    def test_names_of_a_construction(self):
        for names in ((), ("a",), ("a", "b"), ("a", "b", "c"), ("a", "b", "c", "d")):
            self.accepted(" ".join(("make A (",) + names + (")",)), ("make", "A", names))
        self.refused("make A ( a b c d e )", 7)

    def test_a_name_twice_in_a_construction(self):
        self.accepted("make A ( a a )", ("make", "A", ("a", "a")))
        self.accepted("make A ( a b b a )", ("make", "A", ("a", "b", "b", "a")))

    def test_parentheses_stand_where_they_are_asked_and_nowhere_else(self):
        self.refused("make A )", 2)
        self.refused("make A x )", 2)
        self.refused("make A ( (", 3)
        self.refused("make A ()", 2)
        self.refused("make A ( x ( )", 4)
        self.refused("( 1 )", 0)
        self.refused("tick ( 1 )", 1)


class Depths(TextCase):
    def nested(self, form, times, inner):
        for _ in range(times):
            inner = form.replace("@", inner)
        return inner

    def test_depth_sixty_is_read_for_each_form(self):
        for form in DEEPER:
            for inner in FLAT:
                text = self.nested(form, 59, inner)
                with self.subTest(form=form, inner=inner):
                    self.assertEqual(depth(read_term(text)), 60)
                    self.assertEqual(term_text(read_term(text)), text)

    def test_depth_sixty_one_is_refused_at_the_word_with_too_deep_parts(self):
        for around in DEEPER:
            for form in DEEPER:
                before = self.nested(around, 59, "@").split("@")[0].split(" ")[:-1]
                text = self.nested(around, 59, form.replace("@", "x"))
                self.refused(text, len(before))

    def test_a_term_that_is_too_deep_later_in_the_text(self):
        self.refused("+ " + "tick " * 58 + "x " + "tick " * 59 + "x", 59 + 1 + 59 - 1)
        self.assertEqual(depth(read_term("+ " + "tick " * 58 + "x " + "tick " * 58 + "x")), 60)

    def test_each_word_where_only_depth_one_is_left(self):
        for word in ("fun", "call", "let", "case", "ifzero", "tick", "waste") + OPERATORS:
            self.refused("tick " * 59 + word, 59)
            self.refused("tick " * 58 + word, 59)
        for word in FLAT:
            self.assertEqual(depth(read_term("tick " * 59 + word)), 60)
        self.refused("tick " * 59 + "make", 60)
        self.refused("tick " * 59 + "in", 59)

    def test_texts_far_beyond_the_limit_are_refused_at_the_same_word(self):
        for many in (60, 61, 100, 3000):
            self.refused("tick " * many + "x", 59)
            self.refused("fun x " * many + "x", 118)
            self.refused("let x " * many + "x", 118)
            self.refused("case " * many + "x", 59)

    def test_terms_beyond_the_limit_are_written(self):
        for many in (59, 60, 61, 99, 2000):
            term = X
            for _ in range(many):
                term = ("tick", term)
            self.assertEqual(term_text(term), "tick " * many + "x")
        for form in DEEPER:
            term = read_term(form.replace("@", "x"))
            wanted = form.replace("@", "x")
            for _ in range(80):
                term = ("let", (("p", term),), ("number", 65535))
                wanted = f"let p {wanted} in 65535"
            self.assertEqual(term_text(term), wanted)


class Signs(TextCase):
    def test_the_empty_text_has_no_words(self):
        self.refused("", 0)

    def test_a_space_at_the_beginning(self):
        self.refused(" ", 0)
        self.refused("  ", 0)
        self.refused(" x", 0)
        self.refused(" tick x", 0)

    def test_a_space_at_the_end(self):
        self.refused("x ", 1)
        self.refused("tick ", 1)
        self.refused("tick x ", 2)
        self.refused("make A ( ", 3)
        self.refused("let x 1 in x ", 5)

    def test_two_spaces_side_by_side(self):
        self.refused("tick  x", 1)
        self.refused("+ 1  2", 2)
        self.refused("make A (  )", 3)
        self.refused("let x 1  in x", 3)
        self.refused("x  ", 1)

    def test_tabs_and_line_feeds_are_no_spaces(self):
        for sign in ("\t", "\n"):
            self.refused(sign, 0)
            self.refused(f"tick{sign}x", 0)
            self.refused(f"x{sign}", 0)
            self.refused(f"{sign}x", 0)
            self.refused(f"tick {sign} x", 1)
            self.refused(f"tick x{sign}", 1)
            self.refused(f"+ 1{sign}2", 1)
            self.refused(f"+ 1 2{sign}", 2)
            self.refused(f"make A ({sign})", 2)
            self.refused(f"make A ( ){sign}", 3)

    def test_other_signs(self):
        for code in [9, 10] + list(range(33, 127)):
            sign = chr(code)
            if sign == "%" or sign.isalpha() or sign.isdigit():
                continue
            self.refused(f"tick {sign} ", 2 if sign in OPERATORS else 1)
            self.refused(f"tick x{sign}", 1)
            self.refused(f"tick {sign}x", 1)
            self.refused(f"fun {sign} x", 1)
            self.refused(f"make {sign} ( )", 1)
            self.refused(f"tick {sign}{sign}", 1)

    def test_letters_and_digits_that_are_none_of_these(self):
        for sign in ("\u00e9", "\u00b5", "\u0661", "\u00b2", "\uff11"):
            self.refused(sign, 0)
            self.refused(f"fun {sign} 1", 1)
            self.refused(f"make {sign} ( )", 1)
        self.refused("make \u00c9 ( )", 1)

    def test_words_are_taken_as_they_are_written(self):
        for word in ("FUN", "Tick", "HOLE", "Let", "tick:", "++", "=="):
            self.refused(f"{word} x", 0)


class Interface(TextCase):
    def test_the_example(self):
        self.assertEqual(
            repr(read_term("let id fun x x y 7 in call id y")),
            "('let', (('id', ('fun', 'x', ('var', 'x'))), ('y', ('number', 7))), ('call', ('var', 'id'), 'y'))")

    def test_the_error_is_one_of_the_errors_of_the_program(self):
        with self.assertRaises(TermError):
            read_term("")

    def test_each_function_is_defined_in_the_file_that_lists_it(self):
        for function in (read_term, term_text):
            self.assertEqual(function.__module__, "notslower.text")
            self.assertIs(getattr(text_module, function.__name__), function)

    def test_nothing_that_is_passed_is_changed(self):
        for text, term in SAMPLES:
            before = copy.deepcopy(term)
            term_text(term)
            self.assertEqual(term, before)

    def test_reading_again_gives_the_same(self):
        for text, _ in SAMPLES:
            self.assertEqual(read_term(text), read_term(text))
        self.assertEqual(self.at("tick"), self.at("tick"))


if __name__ == "__main__":
    unittest.main()
