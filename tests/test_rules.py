"""Points 2 to 5, as they hold for every function of the package."""

import unittest

from knownends.errors import BadText, NoText, NoThing, NoTree
from knownends.streams import are_counts, counts_of, is_name, is_tree
from knownends.texts import check, packed, sealed, unpacked, unsealed
from tests.helper import nested, odd_values

# Each function of one argument, with the one error that it may raise.
FUNCTIONS = [
    (is_name, None), (is_tree, None), (are_counts, None), (counts_of, NoTree),
    (packed, NoThing), (unpacked, BadText), (check, NoText), (sealed, NoThing), (unsealed, None),
]


def told_by(function, value, error):
    """What a call tells, or the error that it may raise and what that one keeps; any other error goes through."""
    if error is None:
        return function(value)
    try:
        return function(value)
    except error as raised:
        return type(raised), vars(raised)


class TestRules(unittest.TestCase):
    def test_any_value_gets_an_answer_and_is_not_changed(self):
        for function, error in FUNCTIONS:
            for value in odd_values():
                before = repr(value)
                told = told_by(function, value, error)
                self.assertEqual(repr(value), before)
                self.assertEqual(told_by(function, value, error), told)

    def test_flags_are_flags(self):
        for function in (is_name, is_tree, are_counts):
            for value in odd_values():
                self.assertIn(repr(function(value)), ("True", "False"))

    def test_flags_are_no_integers(self):
        self.assertIs(are_counts((("a", 1),)), True)
        self.assertIs(are_counts((("a", True),)), False)
        self.assertEqual(packed((1, 0)), "(1,0)")
        for thing in (True, False, (1, True), (False, 0)):
            self.assertRaises(NoThing, packed, thing)

    def test_lists_are_no_tuples(self):
        self.assertIs(is_tree((("stream", ("a",)),)), True)
        for thing in ([("stream", ("a",))], (["stream", ("a",)],), (("stream", ["a"]),)):
            self.assertIs(is_tree(thing), False)
            self.assertRaises(NoTree, counts_of, thing)
        self.assertRaises(NoThing, packed, ([],))

    def test_what_was_returned_may_be_passed_on(self):
        deepest = nested(30, tuple)
        told = unsealed(sealed(deepest))
        self.assertEqual(told, (deepest,))
        self.assertRaises(NoThing, packed, told)
        self.assertEqual(unpacked(packed(deepest)), deepest)
        twice = packed(packed("'" * 20000))
        self.assertEqual(unpacked(unpacked(twice)), "'" * 20000)
        self.assertEqual(check(twice), check(twice + "\n"))
        for function, error in FUNCTIONS:
            for value in (told, twice, 10 ** 5000):
                told_by(function, value, error)


if __name__ == "__main__":
    unittest.main()
