"""Points [20] to [22], and the interface of notslower.lines."""

import copy
import inspect
import unittest

from notslower import lines as module
from notslower.errors import BadLine, TermError
from notslower.lines import library_lines, read_library, read_step, step_line
from notslower.text import read_term, term_text

from claim_texts import ticks
from loops import CLAIMS, LIBRARY
from small_terms import Maker, things_told

NUMBERS = (0, 9, 10, 99, 100, 999)
ALL_NUMBERS = {str(k) for k in range(1000)}
NO_NUMBERS = ("", "00", "01", "09", "007", "1000", "9999", "0999", "+1", "-1", "-0", "x", "1x", "1.0", "one", "A",
              "\t1", "1\n", "in", "(", "1_0")
NO_NAMES = ("", "X", "A", "abcdefg", "x1", "1", "0", "x_", "_", "fun", "call", "let", "in", "make", "case", "of",
            "end", "ifzero", "tick", "waste", "hole", "x\n", "\tx", "(", "+", "-x")
NO_RULES = ("", "none", "Beta", "float", "floatlet", "float_let", "float-", "-let", "let", "same", "x", "0", "go",
            "undo", "beta\n")
PLAIN_RULES = ("beta", "choose", "zero", "reckon", "join", "branch", "sink", "spoil", "once", "alias", "into", "untick",
               "cheaper")

# What a rule is told, in words and as data.
TOLD = [
    ("rename 0 x y", "rename", (0, "x", "y")), ("rename 999 abcdef z", "rename", (999, "abcdef", "z")),
    ("rename 10 x x", "rename", (10, "x", "x")),
    ("float-let 0", "float-let", (0,)), ("float-let 100", "float-let", (100,)),
    ("float-cost 1", "float-cost", (1,)), ("float-cost 99", "float-cost", (99,)),
    ("order 0", "order", ((),)), ("order 1 0", "order", ((0,),)), ("order 3 2 0 1", "order", ((2, 0, 1),)),
    ("order 2 999 999", "order", ((999, 999),)),
    ("copy x 0", "copy", ("x", ())), ("copy abc 1 9", "copy", ("abc", (9,))),
    ("copy x 3 0 10 999", "copy", ("x", (0, 10, 999))),
    ("unused 1 x", "unused", (("x",),)), ("unused 2 x x", "unused", (("x", "x"),)),
    ("unused 5 a b c d e", "unused", (("a", "b", "c", "d", "e"),))] + [(rule, rule, ()) for rule in PLAIN_RULES]
PLACES = [("0", ()), ("1 0", (0,)), ("1 999", (999,)), ("2 1 0", (1, 0)), ("3 10 100 9", (10, 100, 9))]
TERMS = ["x", "7", "65535", "hole", "fun x x", "let x 1 y 2 in + x y", "case make A ( x ) of A ( y ) y of B ( ) 1 end",
         "call fun x x y", "beta"]


def step_rows():
    """Lines of steps, and the steps that they write."""
    rows = []
    for place_words, place in PLACES:
        for told_words, rule, given in TOLD:
            rows.append((f"go {place_words} {told_words}", ("go", place, rule, given)))
            for text in TERMS:
                step = ("back", place, rule, given, read_term(text))
                rows.append((f"back {place_words} {told_words} {text}", step))
        for k in NUMBERS:
            rows.append((f"claim {place_words} {k}", ("claim", place, k)))
            rows.append((f"undo {place_words} {k}", ("undo", place, k)))
    return rows


def is_number(word):
    return word in ALL_NUMBERS


def takes_listed(words, least, fits):
    """The words behind a number, at least the given one, and as many words that fit, or None."""
    if not words or not is_number(words[0]) or int(words[0]) < least:
        return None
    many = 1 + int(words[0])
    if len(words) < many or not all([fits(word) for word in words[1:many]]):
        return None
    return words[many:]


def takes_each(words, *fits):
    """The words behind those that fit, or None."""
    if len(words) < len(fits) or not all([fit(word) for fit, word in zip(fits, words)]):
        return None
    return words[len(fits):]


def is_name(word):
    return word.isalpha() and word.islower() and word.isascii() and len(word) <= 6 and word not in NO_NAMES


def takes_told(words, rule):
    if rule == "rename":
        return takes_each(words, is_number, is_name, is_name)
    if rule in ("float-let", "float-cost"):
        return takes_each(words, is_number)
    if rule == "order":
        return takes_listed(words, 0, is_number)
    if rule == "unused":
        return takes_listed(words, 1, is_name)
    if rule == "copy":
        left = takes_each(words, is_name)
        return None if left is None else takes_listed(left, 0, is_number)
    return words if rule in PLAIN_RULES else None


def is_step(line):
    """True if the line is one of a step: a second way to read them, which makes no step."""
    words = line.split(" ")
    left = takes_listed(words[1:], 0, is_number)
    if words[0] in ("claim", "undo"):
        return left is not None and len(left) == 1 and is_number(left[0])
    if words[0] not in ("go", "back") or not left:
        return False
    left = takes_told(left[1:], left[0])
    if left is None or words[0] == "go":
        return left == []
    try:
        read_term(" ".join(left))
    except ValueError:
        return False
    return bool(left)


class Steps(unittest.TestCase):
    def refused(self, line):
        with self.subTest(line=line):
            with self.assertRaises(BadLine) as caught:
                read_step(line)
            self.assertEqual(caught.exception.at, 0)
            self.assertIs(type(caught.exception), BadLine)
            self.assertFalse(is_step(line), line)

    def test_the_line_of_each_form(self):
        for line, step in step_rows():
            with self.subTest(line=line):
                kept = copy.deepcopy(step)
                self.assertEqual(step_line(step), line)
                self.assertEqual(read_step(line), step)
                self.assertEqual(step, kept)
                self.assertTrue(is_step(line))

    def test_each_rule_has_a_line(self):
        self.assertEqual(len({rule for _, rule, _ in TOLD}), 19)

    def test_all_lists_are_tuples(self):
        step = read_step("back 2 1 0 unused 2 x y let x 1 in 2")
        self.assertEqual([type(thing) for thing in step], [str, tuple, str, tuple, tuple])
        self.assertIs(type(step), tuple)
        self.assertIs(type(step[3][0]), tuple)
        self.assertIs(type(read_step("go 0 order 2 1 0")[3][0]), tuple)
        self.assertIs(type(read_step("go 0 copy x 2 1 0")[3][1]), tuple)
        self.assertIs(type(read_step("go 0 untick")[1]), tuple)

    def test_whether_a_step_holds_is_not_asked(self):
        for line in ("claim 0 999", "go 1 500 rename 0 x x", "back 0 untick x", "back 0 unused 1 x x",
                     "go 0 order 3 0 0 7", "undo 3 1 2 3 0", "back 0 cheaper hole"):
            self.assertEqual(step_line(read_step(line)), line)

    def test_numbers(self):
        for k in NUMBERS:
            for line in (f"go 1 {k} beta", f"go 0 float-let {k}", f"go 0 rename {k} x y", f"go 0 order 1 {k}",
                         f"go 0 copy x 1 {k}", f"claim 0 {k}", f"undo 2 {k} {k} {k}"):
                self.assertEqual(step_line(read_step(line)), line)
        for word in NO_NUMBERS:
            for line in (f"go 1 {word} beta", f"go 0 float-let {word}", f"go 0 float-cost {word}",
                         f"go 0 rename {word} x y", f"go 0 order 1 {word}", f"go 0 copy x 1 {word}",
                         f"claim 0 {word}", f"undo 0 {word}", f"claim {word} 0", f"go {word} beta",
                         f"go 0 order {word}", f"go 0 copy x {word}", f"go 0 unused {word} x", f"undo 1 {word} 0"):
                self.refused(line)

    def test_long_places(self):
        for many in (4, 60, 999):
            place = tuple(range(many))
            words = " ".join([str(many), *[str(k) for k in place]])
            for line, step in ((f"go {words} beta", ("go", place, "beta", ())),
                               (f"claim {words} 7", ("claim", place, 7)),
                               (f"go 0 copy x {words}", ("go", (), "copy", ("x", place))),
                               (f"go 0 order {words}", ("go", (), "order", (place,)))):
                self.assertEqual(step_line(step), line)
                self.assertEqual(read_step(line), step)
        names = ("x", "y", "z") * 333
        line = " ".join(["go 0 unused 999", *names])
        self.assertEqual(read_step(line), ("go", (), "unused", (names,)))
        self.assertEqual(step_line(("go", (), "unused", (names,))), line)
        self.refused(" ".join(["go 1000", *["0"] * 1000, "beta"]))

    def test_names(self):
        for word in NO_NAMES:
            for line in (f"go 0 rename 0 {word} y", f"go 0 rename 0 x {word}", f"go 0 copy {word} 0",
                         f"go 0 unused 1 {word}", f"go 0 unused 2 x {word}", f"go 0 unused 2 {word} x"):
                self.refused(line)
        for word in ("a", "z", "abcdef", "go", "back", "claim", "undo", "chain", "beta", "ins", "rename", "order"):
            line = f"go 0 rename 0 {word} {word}"
            self.assertEqual(read_step(line), ("go", (), "rename", (0, word, word)))

    def test_rules(self):
        for word in NO_RULES:
            self.refused(f"go 0 {word}")
            self.refused(f"back 0 {word} x")
            self.refused(f"go 0 {word} 0")

    def test_told_too_few_and_too_many(self):
        for words, rule, _ in TOLD:
            self.refused(f"go 0 {words} 0")
            self.refused(f"go 0 {words} x")
            self.refused(f"go 0 {words} ")
            self.refused(f"back 0 {words}")
            self.refused(f"back 0 {words} ")
            self.refused(f"back 0 {words} x x")
            self.refused(f"back 0 {words} ( x")
            if " " in words:
                shorter = words[:words.rindex(" ")]
                self.refused(f"go 0 {shorter}")
                self.refused(f"go 0 {rule}")

    def test_unused_with_no_names(self):
        self.refused("go 0 unused 0")
        self.refused("back 0 unused 0 x")
        self.refused("go 0 unused")
        self.refused("go 0 unused 1")
        self.refused("go 0 unused 2 x")
        self.refused("go 0 unused 1 x x")

    def test_terms(self):
        for text in ("", "+ 1", "let x 1 in", "x x", "fun in x", "make A ( x", "A", "65536", "01", "tick", "x ", " x",
                     "let x 1 x 2 in x", "tick  x", "x\n", "\tx", "beta x"):
            self.refused(f"back 0 beta {text}")
            self.refused(f"back 1 2 float-let 7 {text}")
        for many in (58, 59):
            step = ("back", (), "untick", (), ticks(many, "x"))
            self.assertEqual(read_step(step_line(step)), step)
        for many in (60, 61, 500):
            self.refused(step_line(("back", (), "untick", (), ticks(many, "x"))))
        self.assertTrue(step_line(("back", (), "untick", (), ticks(5000, "x"))).endswith(" tick tick x"))

    def test_first_words(self):
        for word in ("", "Go", "GO", "stay", "derived", "context", "chain", "recursion", "beta", "0", "tick", "\tgo"):
            self.refused(f"{word} 0 beta")
            self.refused(f"{word} 0 0")
            self.refused(f"{word} 0 beta x")
            self.refused(word)
        for word in ("go", "back", "claim", "undo"):
            self.refused(word)
            self.refused(f"{word} 0")
            self.refused(f"{word} 1 0")
            self.refused(f" {word} 0 0")

    def test_spaces(self):
        for line in ("", " ", "  ", "go  0 beta", "go 0  beta", "go 0 beta ", " go 0 beta", "claim 0 1 ", "claim 0  1",
                     "back 0 beta  x", "back 0 beta x ", "go\t0\tbeta", "go 0 beta\n", "\ngo 0 beta"):
            self.refused(line)

    def test_a_word_more_less_or_in_another_place(self):
        others = ("", "0", "1", "2", "3", "01", "1000", "x", "y", "X", "in", "beta", "unused", "order", "copy",
                  "rename", "go", "back", "claim", "tick", "+", "(", "float-let", "hole")
        found = {True: 0, False: 0}
        for line, _ in step_rows()[::7]:
            words = line.split(" ")
            for k in range(len(words) + 1):
                rows = [words[:k] + words[k + 1:]]
                rows += [words[:k] + [other] + words[k:] for other in others]
                rows += [words[:k] + [other] + words[k + 1:] for other in others]
                for row in rows:
                    changed = " ".join(row)
                    found[is_step(changed)] += 1
                    if is_step(changed):
                        self.assertEqual(step_line(read_step(changed)), changed)
                    else:
                        with self.assertRaises(BadLine, msg=changed):
                            read_step(changed)
        self.assertGreater(min(found.values()), 1000)

    def test_steps_of_made_up_terms(self):
        maker = Maker(20)
        rules = [rule for _, rule, _ in TOLD]
        for _ in range(300):
            term = maker.term(4)
            rule = maker.one(rules)
            given = maker.one(things_told(rule, ("let", (("x", term), ("y", term)), term)))
            for step in (("go", (0, 1), rule, given), ("back", (), rule, given, term)):
                self.assertEqual(read_step(step_line(step)), step)


ENTRIES = [
    ("derived", read_term("x"), ()),
    ("derived", read_term("+ 1 2"), (("go", (), "reckon", ()), ("undo", (), 0), ("claim", (0, 1), 999),
                                     ("back", (), "reckon", (), read_term("- 2 1")))),
    ("context", 0, read_term("let y 1 in hole")),
    ("context", 999, read_term("1")),
    ("chain", 0, 10), ("chain", 999, 99),
    ("recursion", 0, 1, read_term("tick hole"), ()),
    ("recursion", 100, 9, read_term("+ hole hole"), (("x", "y"),)),
    ("recursion", 0, 0, read_term("hole"), (("x", "y"), ("y", "x"), ("x", "x")))]
LINES = [
    "derived 0", "x",
    "derived 4", "+ 1 2", "go 0 reckon", "undo 0 0", "claim 2 0 1 999", "back 0 reckon - 2 1",
    "context 0", "let y 1 in hole",
    "context 999", "1",
    "chain 0 10", "chain 999 99",
    "recursion 0 1 0", "tick hole",
    "recursion 100 9 1 x y", "+ hole hole",
    "recursion 0 0 3 x y y x x x", "hole"]
# For each line what may stand there: H is the first line of an entry, T a term and S a step.
FORMS = "HTHTSSSSHTHTHHHTHTHT"
GOOD_LINES = {"H": "chain 1 2", "T": "tick x", "S": "go 0 beta"}


class Libraries(unittest.TestCase):
    def refused(self, lines, at):
        with self.subTest(lines=lines):
            kept = list(lines)
            with self.assertRaises(BadLine) as caught:
                read_library(lines)
            self.assertEqual(caught.exception.at, at)
            self.assertIs(type(caught.exception), BadLine)
            self.assertEqual(lines, kept)

    def test_each_kind_of_entry(self):
        kept = copy.deepcopy(ENTRIES)
        lines = library_lines(ENTRIES)
        self.assertIs(type(lines), list)
        self.assertEqual(lines, LINES)
        self.assertEqual(ENTRIES, kept)
        entries = read_library(LINES)
        self.assertIs(type(entries), list)
        self.assertEqual(entries, ENTRIES)
        self.assertEqual([type(entry) for entry in entries], [tuple] * len(ENTRIES))
        for entry in ENTRIES:
            self.assertEqual(read_library(library_lines([entry])), [entry])

    def test_nothing(self):
        self.assertEqual(read_library([]), [])
        self.assertEqual(library_lines([]), [])

    def test_lists_become_tuples(self):
        entries = [("derived", read_term("x"), [("go", (), "order", ((1, 0),))]),
                   ("recursion", 0, 1, read_term("hole"), [("x", "y")])]
        self.assertEqual(read_library(library_lines(entries)), [
            ("derived", read_term("x"), (("go", (), "order", ((1, 0),)),)),
            ("recursion", 0, 1, read_term("hole"), (("x", "y"),))])

    def test_the_library_of_the_loops(self):
        lines = library_lines(LIBRARY)
        self.assertEqual(lines[:3], ["derived 11", CLAIMS[0][0], "go 0 copy f 2 1 0"])
        self.assertEqual(lines[-3:], [CLAIMS[5][0], "go 0 join", "chain 4 5"])
        self.assertIn("recursion 0 2 1 y b", lines)
        self.assertEqual(tuple(read_library(lines)), LIBRARY)
        self.assertEqual(library_lines(read_library(lines)), lines)

    def test_many_steps_and_many_pairs(self):
        for many in (0, 1, 10, 100, 999):
            entries = [("derived", read_term("x"), (("go", (), "beta", ()),) * many),
                       ("recursion", 0, 1, read_term("hole"), (("x", "y"),) * many), ("chain", 0, 1)]
            lines = library_lines(entries)
            self.assertEqual(len(lines), many + 5)
            self.assertEqual(read_library(lines), entries)
        self.refused(["derived 1000", "x"] + ["go 0 beta"] * 1000, 0)
        self.refused([" ".join(["recursion 0 1 1000"] + ["x", "y"] * 1000), "hole"], 0)

    def test_numbers(self):
        for k in NUMBERS:
            for lines in ([f"context {k}", "hole"], [f"chain {k} 0"], [f"chain 0 {k}"], [f"recursion {k} 0 0", "hole"],
                          [f"recursion 0 {k} 0", "hole"], [f"derived {k}", "x", *["undo 0 1"] * k]):
                self.assertEqual(library_lines(read_library(lines)), lines)
        for word in NO_NUMBERS:
            for line in (f"derived {word}", f"context {word}", f"chain {word} 0", f"chain 0 {word}",
                         f"recursion {word} 0 0", f"recursion 0 {word} 0", f"recursion 0 0 {word}",
                         f"recursion 0 0 {word} x y"):
                self.refused([line], 0)
                self.refused([line, "hole"], 0)
                self.refused(["chain 0 0", line, "hole", "also wrong"], 1)

    def test_the_first_lines_of_entries(self):
        for line in (
                "", " ", "derived", "derived ", "derived 0 0", "derived  0", " derived 0", "derived 0 ", "derived x",
                "Derived 0", "context", "context 0 0", "context 0 hole", "context 0 ", "chain", "chain 0",
                "chain 0 0 0", "chain 0 0 ", "chain  0 0", "chain 0 x", "recursion", "recursion 0", "recursion 0 0",
                "recursion 0 0 1",
                "recursion 0 0 1 x", "recursion 0 0 1 x y z", "recursion 0 0 0 x y", "recursion 0 0 2 x y",
                "recursion 0 0 2 x y z", "recursion 0 0 0 ", "recursion 0 0 1 x Y", "recursion 0 0 1 in y",
                "recursion 0 0 1 x hole", "recursion 0 0 1 abcdefg y", "recursion 0 0 1 x 1", "recursion 0 0 0 hole",
                "recursion 0 0 1 x  y", "go 0 beta", "claim 0 0", "undo 0 0", "back 0 beta x", "x", "hole", "tick x",
                "0", "chain\t0\t0", "chain 0 0\n"):
            self.refused([line], 0)
            self.refused([line, "hole"], 0)
            self.refused(["chain 0 0", "context 1", "hole", line, "hole"], 3)

    def test_whether_entries_hold_is_not_asked(self):
        for lines in (["chain 7 7"], ["context 3", "1"], ["context 0", "+ hole hole"], ["derived 1", "x", "claim 0 9"],
                      ["recursion 9 9 2 x y x z", "x"], ["derived 2", "x", "go 9 1 1 1 1 1 1 1 1 1 beta", "undo 0 0"]):
            self.assertEqual(library_lines(read_library(lines)), lines)

    def test_terms(self):
        for text in ("", " ", "+ 1", "x x", "let x 1 in", "tick", "A", "65536", "01", "x ", " x", "go 0 beta",
                     "chain 0 0", "x\n", "make A ( x", "derived 0"):
            self.refused(["derived 0", text], 1)
            self.refused(["derived 1", text, "go 0 beta"], 1)
            self.refused(["context 0", text], 1)
            self.refused(["recursion 0 0 1 x y", text], 1)
            self.refused(["chain 0 0", "recursion 0 0 0", text, ""], 2)
        for head in ("derived 0", "context 0", "recursion 0 0 0"):
            for many in (58, 59):
                lines = [head, term_text(ticks(many, "hole"))]
                self.assertEqual(library_lines(read_library(lines)), lines)
            for many in (60, 61, 300):
                self.refused([head, term_text(ticks(many, "hole"))], 1)

    def test_steps(self):
        for line in ("", "go 0", "go 0 none", "claim 0", "undo 0 x", "back 0 beta", "go 0 beta ", "go 0 unused 0", "x",
                     "chain 0 0", "derived 0", "context 0"):
            self.refused(["derived 1", "x", line], 2)
            self.refused(["derived 3", "x", line], 2)
            self.refused(["derived 3", "x", "go 0 beta", line, ""], 3)
            self.refused(["derived 3", "x", "go 0 beta", "undo 0 0", line], 4)
        for line in ("go 0 beta", "claim 0 0", "undo 0 0", "back 0 beta x"):
            self.refused(["derived 0", "x", line], 2)
            self.refused(["derived 1", "x", line, line], 3)

    def test_lines_that_are_missing(self):
        for many in range(len(LINES)):
            if FORMS[many] == "H":
                self.assertEqual(library_lines(read_library(LINES[:many])), LINES[:many])
            else:
                self.refused(LINES[:many], many)
                for k in range(many):
                    self.refused(LINES[:k] + ["wrong line"] + LINES[k + 1:many], k)
        self.refused(["derived 0"], 1)
        self.refused(["context 0"], 1)
        self.refused(["recursion 0 0 0"], 1)
        self.refused(["derived 1", "x"], 2)
        self.refused(["derived 999", "x"], 2)
        self.refused(["derived 999", "x", "go 0 beta"], 3)

    def test_a_line_where_another_one_is_due(self):
        for k, form in enumerate(FORMS):
            for other, line in GOOD_LINES.items():
                if other != form:
                    self.refused(LINES[:k] + [line] + LINES[k + 1:], k)
                    self.refused(LINES[:k] + [line] + ["wrong line"] * 3, k)
                    self.refused(LINES[:k] + [line], k)

    def test_a_line_too_many_or_too_few(self):
        for k, form in enumerate(FORMS):
            self.refused(LINES[:k] + [""] + LINES[k:], k)
            if form == "S":
                self.refused(LINES[:k] + LINES[k + 1:], FORMS.index("H", k) - 1)
            if form == "T":
                self.refused(LINES[:k] + LINES[k + 1:], k)
                self.refused(LINES[:k] + ["x"] + LINES[k:], k + 1)


class Interface(unittest.TestCase):
    def test_each_function_is_defined_in_the_file_that_lists_it(self):
        listed = ((step_line, "step"), (read_step, "line"), (library_lines, "entries"), (read_library, "lines"))
        for function, name in listed:
            self.assertEqual(function.__module__, "notslower.lines")
            self.assertIs(getattr(module, function.__name__), function)
            self.assertEqual(list(inspect.signature(function).parameters), [name])

    def test_the_errors(self):
        with self.assertRaises(TermError):
            read_step("")
        with self.assertRaises(TermError):
            read_library([""])

    def test_what_is_returned_may_be_changed_without_effect(self):
        lines = library_lines(ENTRIES)
        lines.clear()
        self.assertEqual(library_lines(ENTRIES), LINES)
        entries = read_library(LINES)
        entries.clear()
        self.assertEqual(read_library(LINES), ENTRIES)


if __name__ == "__main__":
    unittest.main()
