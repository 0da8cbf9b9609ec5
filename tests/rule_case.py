"""What the tests of the rules have in common."""

import copy
import unittest

from notslower.derivation import applied
from notslower.text import read_term, term_text


class RuleCase(unittest.TestCase):
    def changes(self, rule, before, given, after):
        """The rule changes the one text to the other one."""
        with self.subTest(rule=rule, before=before, given=given):
            term = read_term(before)
            kept = copy.deepcopy(term)
            found = applied(rule, term, given)
            self.assertIsNotNone(found)
            self.assertEqual(term_text(found), after)
            self.assertEqual(found, read_term(after))
            self.assertEqual(term, kept)

    def fails(self, rule, before, *tolds):
        """The rule does not hold for the text, whichever of these tuples of things it is told."""
        for given in tolds:
            with self.subTest(rule=rule, before=before, given=given):
                self.assertIsNone(applied(rule, read_term(before), given))
