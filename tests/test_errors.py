"""[21]: the errors, what they keep, and what they derive from."""

import unittest

from termlays import errors
from tests.samples import ANY_VALUES

KEPT = {
    "BadName": "value", "BadLay": "value", "BadShare": "value", "BadLines": "value", "BadRow": "number",
    "NamedTwice": "name", "NotNamed": "name", "NoTerm": "value", "IsQuashed": "name", "NotQuashed": "name",
    "BadLengths": "value", "BadMatrix": "value", "BadChains": "value", "BadRanges": "value",
    "BadAnswers": "value", "NotWhole": "lot", "IsTold": "name", "BadDays": "value", "BadLine": "line",
}
BARE = ["NoLengths", "Nothing"]


class Errors(unittest.TestCase):

    def test_each_is_a_direct_subclass_of_term_error(self):
        for word in list(KEPT) + BARE:
            with self.subTest(word):
                self.assertEqual(getattr(errors, word).__bases__, (errors.TermError,))

    def test_term_error_is_a_direct_subclass_of_value_error(self):
        self.assertEqual(errors.TermError.__bases__, (ValueError,))

    def test_each_keeps_any_value_by_position_and_by_name(self):
        for word, attribute in KEPT.items():
            kind = getattr(errors, word)
            for value in ANY_VALUES:
                with self.subTest(word, value=value):
                    self.assertEqual(vars(kind(value)), {attribute: value})
                    self.assertIs(getattr(kind(value), attribute), value)
                    self.assertIs(getattr(kind(**{attribute: value}), attribute), value)

    def test_each_takes_just_its_argument(self):
        for word, attribute in KEPT.items():
            kind = getattr(errors, word)
            with self.subTest(word):
                self.assertRaises(TypeError, kind)
                self.assertRaises(TypeError, kind, 1, 2)
                self.assertRaises(TypeError, kind, other=1)

    def test_bare_ones_keep_nothing(self):
        for word in BARE:
            with self.subTest(word):
                self.assertEqual(vars(getattr(errors, word)()), {})

    def test_each_is_raised_and_caught(self):
        for word in list(KEPT) + BARE:
            kind = getattr(errors, word)
            for caught in (kind, errors.TermError, ValueError):
                with self.subTest(word, caught=caught), self.assertRaises(caught):
                    raise kind(*([[1]] if word in KEPT else []))

    def test_no_error_is_lacking_or_more(self):
        kinds = [word for word, kind in vars(errors).items() if isinstance(kind, type)]
        self.assertEqual(sorted(kinds), sorted(list(KEPT) + BARE + ["TermError"]))
