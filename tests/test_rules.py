"""Points 2 to 5, as they hold for every function of the package."""

import unittest

from knownends.books import is_book, joined_books, whole
from knownends.days import relived
from knownends.disks import Disk, kept, lines, noted, opened, rest, standing
from knownends.errors import (
    BadSheet, BadText, NoArea, NoBook, NoCounts, NoDay, NoItems, NoMarks, NoName, NoNumber, NoNumbers, NoPlace,
    NoQuestion,
    NoRanks, NoRoom, NoSide, NoSketch, NoSketches, NoSpace, NoText, NoThing, NoTree, NoTruth,
)
from knownends.foes import is_verdict, play
from knownends.joins import is_join_truths, join, join_truths, joined, same
from knownends.net import Net
from knownends.questions import (
    end_truths, ends, is_end_truths, is_question, perhaps_above, perhaps_first, surely_above, surely_first, value,
)
from knownends.ranks import (
    bare_ranks, ends_at, is_ranks, item_ends, openness, poured_ranks, rank_at, ranks_of, ranks_tree, thinned,
)
from knownends.rings import Ring, sum_ends
from knownends.rooms import most_off, room_for, widest, worst
from knownends.sheets import question_text, read_question, run_sheet
from knownends.sketches import bare, fed, fed_many, is_sketch, poured, sketch_of
from knownends.spaces import bare_space, fed_space, from_space, is_space
from knownends.streams import are_counts, counts_of, is_name, is_tree
from knownends.texts import check, packed, sealed, unpacked, unsealed
from knownends.truths import is_paper, is_truth, paper
from knownends.turning import turned_tree
from tests.helper import nested, odd_values

# Each function of one argument, with the error, or the errors, that it may raise.
FUNCTIONS = [
    (is_name, None), (is_tree, None), (are_counts, None), (counts_of, NoTree),
    (packed, NoThing), (unpacked, BadText), (check, NoText), (sealed, NoThing), (unsealed, None),
    (lines, NoText), (rest, NoText), (is_sketch, None), (bare, NoRoom), (is_question, None), (surely_first, NoSketch),
    (perhaps_first, NoSketch), (is_space, None), (bare_space, NoRoom), (from_space, NoSpace), (is_ranks, None),
    (bare_ranks, NoRoom), (openness, NoRanks), (is_book, None), (question_text, NoQuestion), (read_question, None),
    (run_sheet, (NoText, BadSheet)), (relived, (NoText, NoDay)),
]

SKETCH = (2, 6, 1, (("a", 2), ("b", 1)))
TRUTH = (("a", 2), ("b", 2), ("c", 1), ("d", 1))
TREE = (("stream", ("a", "b")),)
UNLIKE = ("unlike",)
SPACE = (2, 3, (("a", 2), ("b", 1)))
RANKS = (2, 9, (((1, 2), 1, 3, 2, 5),))
NUMBERS = (("numbers", ((1, 2), (3, 1))),)
PLACE = ((1, 2), 1)
BOOK = ((1, 6, SKETCH),)


def maker():
    """A keeper that keeps nothing and tells no more than it must."""
    box = []
    return box.append, lambda: (), lambda name: (0, len(box))


# Each function of more arguments: right ones, and for each of them the error for a wrong one, None if there is none.
CALLS = [
    (fed, (SKETCH, "a"), (NoSketch, NoName)),
    (fed_many, (SKETCH, "a", 3), (NoSketch, NoName, NoNumber)),
    (poured, (SKETCH, SKETCH), (NoSketch, NoSketch)),
    (sketch_of, (2, TREE), (NoRoom, NoTree)),
    (is_truth, (SKETCH, TRUTH), (NoSketch, None)),
    (paper, (SKETCH, TRUTH), (NoSketch, NoTruth)),
    (is_paper, (SKETCH, TRUTH, TREE), (NoSketch, NoTruth, None)),
    (value, (TRUTH, UNLIKE), (NoCounts, NoQuestion)),
    (ends, (SKETCH, UNLIKE), (NoSketch, NoQuestion)),
    (end_truths, (SKETCH, UNLIKE), (NoSketch, NoQuestion)),
    (is_end_truths, (SKETCH, UNLIKE, (TRUTH, TRUTH)), (NoSketch, NoQuestion, None)),
    (surely_above, (SKETCH, 1), (NoSketch, NoNumber)),
    (perhaps_above, (SKETCH, 1), (NoSketch, NoNumber)),
    (joined, (TRUTH, TRUTH), (NoCounts, NoCounts)),
    (join, (SKETCH, SKETCH), (NoSketch, NoSketch)),
    (join_truths, (SKETCH, SKETCH), (NoSketch, NoSketch)),
    (is_join_truths, (SKETCH, SKETCH, ((TRUTH, TRUTH), (TRUTH, TRUTH))), (NoSketch, NoSketch, None)),
    (same, (SKETCH, SKETCH), (NoSketch, NoSketch)),
    (most_off, (2, 7), (NoRoom, NoNumber)),
    (room_for, (7, 2), (NoNumber, NoNumber)),
    (worst, (2, 7), (NoRoom, NoNumber)),
    (widest, (2, 7, ("count", "a")), (NoRoom, NoNumber, NoQuestion)),
    (lambda *rest_of_it: play(maker, *rest_of_it), (2, 7), (NoRoom, NoNumber)),
    (lambda *rest_of_it: is_verdict(maker, *rest_of_it), (2, 7, ("keeps", ("a",))), (NoRoom, NoNumber, None)),
    (fed_space, (SPACE, "a"), (NoSpace, NoName)),
    (sum_ends, ((SKETCH,), "a"), (NoSketches, NoName)),
    (lambda *numbers: Ring(*numbers).now(), (2, 3, 4), (NoRoom, NoNumber, NoNumber)),
    (thinned, (2, 9, RANKS[2]), (NoRoom, NoMarks, NoMarks)),
    (ranks_of, (2, NUMBERS[0][1]), (NoRoom, NoNumbers)),
    (poured_ranks, (RANKS, RANKS), (NoRanks, NoRanks)),
    (ranks_tree, (2, NUMBERS), (NoRoom, NoTree)),
    (ends_at, (RANKS, PLACE), (NoRanks, NoPlace)),
    (item_ends, (RANKS, 0), (NoRanks, NoNumber)),
    (rank_at, (NUMBERS, PLACE), (NoTree, NoPlace)),
    (turned_tree, (2, NUMBERS, PLACE, 0), (NoRoom, NoTree, NoPlace, NoSide)),
    (joined_books, (BOOK, BOOK), (NoBook, NoBook)),
    (whole, (2, BOOK), (NoRoom, NoBook)),
    (lambda *numbers: Net(*numbers).up(), (2, 3, 4), (NoRoom, NoNumber, NoNumber)),
]


def told_by(function, value, error):
    """What a call tells, or the error that it may raise and what that one keeps; any other error goes through."""
    if error is None:
        return function(value)
    try:
        return function(value)
    except error as raised:
        return type(raised), vars(raised)


def is_right(value, error, first):
    """Whether an odd value is a right one where this error is raised for a wrong one."""
    if error is NoRoom:
        return value == 1 and value is not True
    if error is NoNumber:
        return type(value) is int and value >= 0 and (first in (NoSketch,) or value <= 10 ** 12)
    if error is NoName:
        return value in ("a", "pour")
    if error is NoTree:
        return value == (("stream", ()),)
    if error is NoCounts:
        return value == () or value == (("a", 1),)
    if error is NoMarks:
        return value == () or type(value) is int and value >= 5
    if error is NoSide:
        return type(value) is int and 0 <= value <= 1
    if error in (NoSketches, NoNumbers, NoBook):
        return value == ()
    return error is None


class TestRules(unittest.TestCase):
    def test_any_value_gets_an_answer_and_is_not_changed(self):
        for function, error in FUNCTIONS:
            for value in odd_values():
                before = repr(value)
                told = told_by(function, value, error)
                self.assertEqual(repr(value), before)
                self.assertEqual(told_by(function, value, error), told)

    def test_each_argument_has_its_error(self):
        for function, right, errors in CALLS:
            function(*right)
            for at, error in enumerate(errors):
                for value in odd_values():
                    arguments = right[:at] + (value,) + right[at + 1:]
                    before = repr(value)
                    if error is None:
                        self.assertIs(function(*arguments), False)
                    elif not is_right(value, error, errors[0]):
                        self.assertRaises(error, function, *arguments)
                    self.assertEqual(repr(value), before)

    def test_the_first_wrong_argument_is_told(self):
        for function, right, errors in CALLS:
            for value in (None, True, [], -1, Disk(), nested(30, dict), "~" * 20000):
                for at, error in enumerate(errors):
                    arguments = right[:at] + (value,) * (len(right) - at)
                    if error is not None:
                        self.assertRaises(error, function, *arguments)

    def test_equal_calls_give_equal_results(self):
        for function, right, _ in CALLS:
            self.assertEqual(function(*right), function(*right))

    def test_disks_take_any_value(self):
        for value in odd_values():
            disk = Disk()
            opened(disk)
            before = disk.area(0)
            number = value == 0 and value is not False
            if not number and not (value == 1 and value is not True):
                for call in (disk.area, disk.clear, lambda k: disk.append(k, "", None), lambda k: disk.shorten(k, 0)):
                    self.assertRaises(NoArea, call, value)
            if not number and not (type(value) is int and 0 <= value <= len(before)):
                self.assertRaises(NoNumber, disk.shorten, 0, value)
            if value is not None and not (type(value) is int and value >= 0):
                self.assertRaises(NoNumber, disk.append, 0, "a", value)
                self.assertRaises(NoNumber, noted, disk, "a", value)
                self.assertRaises(NoNumber, kept, disk, (), value)
            if not isinstance(value, str):
                self.assertRaises(NoText, disk.append, 0, value, None)
            if isinstance(value, (bool, list, dict, Disk, ValueError)):
                self.assertRaises(NoItems, noted, disk, value, None)
                self.assertRaises(NoItems, kept, disk, value, None)
                self.assertRaises(NoItems, kept, disk, (value,), None)
            self.assertEqual((disk.area(0), disk.area(1)), (before, ""))
            self.assertEqual(standing(disk), 0)

    def test_flags_are_flags(self):
        for function in (is_name, is_tree, are_counts, is_sketch, is_question, is_space, is_ranks, is_book):
            for value in odd_values():
                self.assertIn(repr(function(value)), ("True", "False"))

    def test_flags_are_no_integers(self):
        self.assertIs(are_counts((("a", 1),)), True)
        self.assertIs(are_counts((("a", True),)), False)
        self.assertEqual(packed((1, 0)), "(1,0)")
        for thing in (True, False, (1, True), (False, 0)):
            self.assertRaises(NoThing, packed, thing)

    def test_lists_are_no_tuples(self):
        self.assertIs(is_tree((("stream", ("a",)),)), True)
        for thing in ([("stream", ("a",))], (["stream", ("a",)],), (("stream", ["a"]),)):
            self.assertIs(is_tree(thing), False)
            self.assertRaises(NoTree, counts_of, thing)
        self.assertRaises(NoThing, packed, ([],))

    def test_what_was_returned_may_be_passed_on(self):
        deepest = nested(30, tuple)
        told = unsealed(sealed(deepest))
        self.assertEqual(told, (deepest,))
        self.assertRaises(NoThing, packed, told)
        self.assertEqual(unpacked(packed(deepest)), deepest)
        twice = packed(packed("'" * 20000))
        self.assertEqual(unpacked(unpacked(twice)), "'" * 20000)
        self.assertEqual(check(twice), check(twice + "\n"))
        for function, error in FUNCTIONS:
            for value in (told, twice, 10 ** 5000):
                told_by(function, value, error)


if __name__ == "__main__":
    unittest.main()
