"""Point 10: questions, their values and ends, and what is surely or perhaps above or first."""

import itertools
import unittest

from knownends.errors import NoCounts, NoNumber, NoQuestion, NoSketch, TooMany
from knownends.questions import (
    end_truths, ends, is_end_truths, is_question, perhaps_above, perhaps_first, surely_above, surely_first, value,
)
from knownends.sketches import is_sketch
from knownends.truths import is_paper, is_truth, paper
from tests.helper import odd_values
from tests.listing import SKETCHES, all_sketches, lost, truths_but_for_strangers

FORTY = tuple(sorted(a + b for a in "abcd" for b in "abcdefghij"))

QUESTIONS = [
    ("count", "a"), ("count", "zzzzzzzz"), ("lot", ()), ("lot", ("a",)), ("lot", ("a", "aa", "b")), ("lot", FORTY),
    ("apart", "a", "b"), ("apart", "b", "a"), ("place", "a"), ("place", "count"), ("first", 1), ("first", 40),
    ("unlike",), ("squares",),
]

NO_QUESTIONS = [
    ("lot", ("b", "a")), ("lot", ("a", "a")), ("lot", ("a", "b", "b")), ("lot", FORTY + ("zz",)), ("lot", ["a"]),
    ("lot", "a"), ("lot", "ab"), ("lot", None), ("lot", ("a", 1)), ("lot", ("A",)), ("lot", ("",)), ("lot", (("a",),)),
    ("lot", {"a": 1}), ("lot",), ("lot", ("a",), ("b",)), ("lot", "a", "b"),
    ("apart", "a", "a"), ("apart", "a"), ("apart", "a", "b", "c"), ("apart", "a", "B"), ("apart", "", "b"),
    ("apart", ("a", "b")), ("apart", 1, 2), ("apart", "a", None),
    ("first", 0), ("first", 41), ("first", -1), ("first", True), ("first", False), ("first", "1"), ("first", None),
    ("first", (1,)), ("first",), ("first", 1, 2), ("first", 10 ** 29),
    ("count",), ("count", "a", "b"), ("count", "A"), ("count", ""), ("count", "abcdefghi"), ("count", 1),
    ("count", True), ("count", ("a",)), ("count", ["a"]), ("count", None), ("place",), ("place", "a", "b"),
    ("place", ""), ("place", None), ("place", 1), ("place", ("a",)),
    ("unlike", "a"), ("unlike", ()), ("unlike", None), ("squares", 1), ("squares", "a"), ("unlike", "unlike"),
    ["count", "a"], ["unlike"], ("counts", "a"), ("Count", "a"), ("", "a"), (None, "a"), (True, "a"), (1,), ((),),
    (("count",), "a"), (["count"], "a"), ({}, "a"), "unlike", "count a", (), [], None, True, 0,
]

COUNTS = [
    (), (("a", 1),), (("b", 7),), (("a", 3), ("b", 3)), (("a", 2), ("aa", 9), ("b", 4), ("c", 4), ("zz", 1)),
    (("a", 10 ** 10), ("b", 10 ** 29)), tuple((name, at % 7 + 1) for at, name in enumerate(FORTY)),
]

# No sketch of the lists keeps m or n.
ASKED = [("count", name) for name in "abcm"]
ASKED += [("place", name) for name in "abcm"]
ASKED += [("apart", one, other) for one, other in itertools.permutations("abmn", 2)]
ASKED += [("lot", names) for many in range(5) for names in itertools.combinations("abmn", many)]
ASKED += [("first", j) for j in (1, 2, 3, 4, 5, 39, 40)]
ASKED += [("unlike",), ("squares",)]


def told_by(counts, question):
    """The value of a question, told another way: over the counts as a plain list."""
    table = dict(counts)
    word, *names = question
    of = [table[name] if name in table else 0 for name in names if isinstance(name, str)]
    if word == "count":
        return of[0]
    if word == "lot":
        return sum(count for name, count in counts if name in names[0])
    if word == "apart":
        return of[0] - of[1]
    if word == "place":
        return len([name for name in table if table[name] > of[0]]) + 1
    if word == "first":
        return sum(sorted(table.values())[::-1][:names[0]])
    if word == "unlike":
        return len(set(table))
    return sum(count ** 2 for count in table.values())


def small_sketches():
    """Sketches, all truths of which can be listed."""
    told = [sketch for sketch in SKETCHES if lost(sketch) <= 6]
    told += [sketch for many in range(8) for sketch in all_sketches(1, many, "ab") if lost(sketch) <= 6]
    told += [sketch for many in (3, 4, 5, 6) for sketch in all_sketches(2, many, "abc") if sketch[2] > 0]
    return told


def listed(sketch):
    """All truths of a sketch, but for how names that are neither kept nor asked are called."""
    return truths_but_for_strangers(sketch, "abcmn")


class TestIsQuestion(unittest.TestCase):
    def test_questions(self):
        for thing in [*QUESTIONS, *ASKED]:
            self.assertIs(is_question(thing), True, thing)

    def test_no_questions(self):
        for thing in [*NO_QUESTIONS, *odd_values()]:
            self.assertIs(is_question(thing), False, repr(thing)[:60])


class TestValue(unittest.TestCase):
    def test_values(self):
        counts = (("a", 2), ("aa", 9), ("b", 4), ("c", 4), ("zz", 1))
        told = [
            (("count", "aa"), 9), (("count", "d"), 0), (("lot", ()), 0), (("lot", ("a", "b", "x")), 6),
            (("apart", "a", "aa"), -7), (("apart", "b", "c"), 0), (("apart", "c", "x"), 4), (("apart", "x", "y"), 0),
            (("place", "aa"), 1), (("place", "b"), 2), (("place", "c"), 2), (("place", "a"), 4), (("place", "zz"), 5),
            (("place", "x"), 6), (("first", 1), 9), (("first", 2), 13), (("first", 3), 17), (("first", 4), 19),
            (("first", 5), 20), (("first", 6), 20), (("first", 40), 20), (("unlike",), 5), (("squares",), 118),
        ]
        for question, number in told:
            self.assertEqual(value(counts, question), number, question)

    def test_another_way(self):
        for counts in COUNTS:
            for question in [*QUESTIONS, *ASKED]:
                told = value(counts, question)
                self.assertEqual(told, told_by(counts, question), question)
                self.assertIs(type(told), int)

    def test_errors(self):
        for counts in [(("a", 0),), (("b", 1), ("a", 1)), [("a", 1)], (("a", True),), 7, None, {"a": 1}]:
            self.assertRaises(NoCounts, value, counts, ("unlike",))
            self.assertRaises(NoCounts, value, counts, None)
        for question in NO_QUESTIONS:
            self.assertRaises(NoQuestion, value, (), question)


class TestEnds(unittest.TestCase):
    def test_all_truths_of_small_sketches(self):
        for sketch in small_sketches():
            all_of_it = listed(sketch)
            for question in ASKED:
                values = [value(truth, question) for truth in all_of_it]
                self.assertEqual(ends(sketch, question), (min(values), max(values)), (sketch, question))

    def test_truths_at_the_ends(self):
        for sketch in small_sketches():
            for question in ASKED:
                told = end_truths(sketch, question)
                self.assertIs(type(told), tuple)
                self.assertEqual([is_truth(sketch, truth) for truth in told], [True, True])
                self.assertEqual(tuple(value(truth, question) for truth in told), ends(sketch, question))
                self.assertIs(is_end_truths(sketch, question, told), True)
                self.assertEqual(end_truths(sketch, question), told)

    def test_is_end_truths_of_all_pairs(self):
        for sketch in [(1, 5, 2, (("b", 1),)), (2, 4, 1, ()), (2, 5, 1, (("a", 1),))]:
            all_of_it = listed(sketch)
            for question in (("count", "a"), ("place", "b"), ("first", 2), ("unlike",), ("squares",)):
                low, high = ends(sketch, question)
                for one, other in itertools.product(all_of_it, repeat=2):
                    right = value(one, question) == low and value(other, question) == high
                    self.assertIs(is_end_truths(sketch, question, (one, other)), right)

    def test_is_end_truths_of_other_things(self):
        sketch, question = (2, 5, 1, (("a", 1),)), ("count", "a")
        low, high = end_truths(sketch, question)
        self.assertIs(is_end_truths(sketch, question, (low, high)), True)
        wrong = [
            (high, low), [low, high], (low,), (low, high, high), (low, list(high)), (list(low), high), (low, low), low,
            (high, high), (low, None), (None, high), (low, ()), ((), ()), (low, high[:-1]), (low, high + (("zz", 1),)),
            (low, tuple((name, True if count == 1 else count) for name, count in high)),
        ]
        for thing in [*wrong, *odd_values()]:
            self.assertIs(is_end_truths(sketch, question, thing), False, repr(thing)[:60])

    def test_both_ends_may_be_one(self):
        sketch = (3, 6, 0, (("a", 2), ("b", 4)))
        for question in [*QUESTIONS, *ASKED]:
            told = value(sketch[3], question)
            self.assertEqual(ends(sketch, question), (told, told))
            self.assertEqual(end_truths(sketch, question), (sketch[3], sketch[3]))
        self.assertEqual(ends((64, 0, 0, ()), ("unlike",)), (0, 0))
        self.assertEqual(ends((64, 0, 0, ()), ("place", "a")), (1, 1))
        self.assertEqual(end_truths((64, 0, 0, ()), ("squares",)), ((), ()))

    def test_great_numbers(self):
        off = 10 ** 10
        kept = (("a", 3 * off), ("b", off), ("c", 5))
        sketch = (3, 4 * off + 5 + 5 * off + 7, off, kept)
        self.assertIs(is_sketch(sketch), True)
        told = [
            (("count", "a"), (3 * off, 4 * off)), (("count", "x"), (0, off)), (("lot", ("a", "x")), (3 * off, 5 * off)),
            (("lot", ("d", "e", "f", "g", "h", "i")), (0, 5 * off + 7)), (("apart", "a", "b"), (off, 3 * off)),
            (("apart", "x", "y"), (-off, off)), (("place", "a"), (1, 1)), (("place", "b"), (2, 3)),
            (("place", "c"), (2, 3 + (5 * off + 7) // 6)), (("place", "x"), (2, 4 + 5 * off + 7)),
            (("first", 1), (3 * off, 4 * off)), (("first", 3), (4 * off + 5, 7 * off + 5)),
            (("first", 5), (4 * off + 7, 9 * off + 5)), (("first", 40), (4 * off + 42, 9 * off + 12)),
            (("unlike",), (6, 3 + 5 * off + 7)),
            (("squares",), (10 * off ** 2 + 25 + 5 * off + 7, (16 + 4 + 2) * off ** 2 + (off + 5) ** 2 + 49)),
        ]
        for question, pair in told:
            self.assertEqual(ends(sketch, question), pair, question)

    def test_greater_numbers_than_names_are_passed_on(self):
        off = 10 ** 30
        self.assertEqual(ends((1, 2 * off, off, ()), ("apart", "a", "b")), (-off, off))
        self.assertEqual(ends((1, 2 * off, off, ()), ("first", 1)), (1, off))

    def test_how_many_items(self):
        names = tuple(sorted(a + b for a in "abcdefgh" for b in "abcdefgh"))
        for sketch in [(1, 1500, 750, ()), (64, 1500, 20, tuple((name, 1) for name in names[:20])), (2, 1500, 375, ())]:
            self.assertIs(is_sketch(sketch), True)
            for question in [*QUESTIONS, *ASKED[:30:3]]:
                told = end_truths(sketch, question)
                self.assertIs(is_end_truths(sketch, question, told), True)
                for truth in told:
                    self.assertIs(is_paper(sketch, truth, paper(sketch, truth)), True)
        sketch = (1, 1501, 750, (("a", 1),))
        for call in (lambda: end_truths(sketch, ("unlike",)), lambda: is_end_truths(sketch, ("unlike",), None)):
            with self.assertRaises(TooMany) as caught:
                call()
            self.assertEqual(caught.exception.most, 1500)
        self.assertEqual(ends(sketch, ("unlike",)), (2, 1501))

    def test_order_of_errors(self):
        for sketch in [(1, 1, 0, ()), [1, 0, 0, ()], (0, 0, 0, ()), (1, 1501, 0, ()), None]:
            for question in (("unlike",), None):
                self.assertRaises(NoSketch, ends, sketch, question)
                self.assertRaises(NoSketch, end_truths, sketch, question)
                self.assertRaises(NoSketch, is_end_truths, sketch, question, None)
        for question in NO_QUESTIONS:
            for sketch in ((1, 0, 0, ()), (1, 1501, 0, (("a", 1501),))):
                self.assertRaises(NoQuestion, ends, sketch, question)
                self.assertRaises(NoQuestion, end_truths, sketch, question)
                self.assertRaises(NoQuestion, is_end_truths, sketch, question, ((), ()))


class TestAbove(unittest.TestCase):
    def test_all_truths_of_small_sketches(self):
        for sketch in small_sketches():
            tables = [dict(truth) for truth in listed(sketch)]
            kept = {name for name, _ in sketch[3]}
            for most in range(10):
                above = [{name for name in table if table[name] > most} for table in tables]
                # Strangers are told in one order only, so what they all have in common tells nothing of them.
                self.assertEqual(surely_above(sketch, most), tuple(sorted(set.intersection(*above) - {"o", "p"})))
                perhaps = set.union(*above)
                names, strangers = perhaps_above(sketch, most)
                self.assertEqual(names, tuple(sorted(perhaps & kept)))
                self.assertIs(strangers, bool(perhaps - kept))

    def test_great_numbers(self):
        sketch = (2, 5 * 10 ** 10, 10 ** 10, (("a", 10 ** 10), ("z", 10 ** 10)))
        self.assertEqual(surely_above(sketch, 10 ** 10), ())
        self.assertEqual(surely_above(sketch, 10 ** 10 - 1), ("a", "z"))
        self.assertEqual(perhaps_above(sketch, 10 ** 10 - 1), (("a", "z"), True))
        self.assertEqual(perhaps_above(sketch, 10 ** 10), (("a", "z"), False))
        self.assertEqual(perhaps_above(sketch, 2 * 10 ** 10), ((), False))

    def test_errors(self):
        for call in (surely_above, perhaps_above):
            for most in [-1, True, False, None, "1", (), [0], {}]:
                self.assertRaises(NoNumber, call, (1, 0, 0, ()), most)
                self.assertRaises(NoSketch, call, (1, 1, 0, ()), most)
            self.assertRaises(NoSketch, call, [1, 0, 0, ()], 0)


class TestFirst(unittest.TestCase):
    def test_all_truths_of_small_sketches(self):
        for sketch in small_sketches():
            tables = [dict(truth) for truth in listed(sketch)]
            kept = {name for name, _ in sketch[3]}
            tops = [{name for name in table if table[name] == max(table.values())} for table in tables]
            alone = {tuple(sorted(top)) for top in tops}
            sure = next(iter(alone))[0] if len(alone) == 1 and len(next(iter(alone))) == 1 else None
            self.assertEqual(surely_first(sketch), sure, sketch)
            perhaps = set.union(*tops)
            self.assertEqual(perhaps_first(sketch), (tuple(sorted(perhaps & kept)), bool(perhaps - kept)), sketch)

    def test_at_the_edge(self):
        for off in (0, 1, 5, 10 ** 9):
            for more in (-1, 0, 1):
                sketch = (2, 3 * off + 6 + off + more, off, (("a", 3), ("c", off + 3 + more)))
                self.assertIs(is_sketch(sketch), True)
                expected = "c" if more == 1 else "a" if off == 0 and more == -1 else None
                self.assertEqual(surely_first(sketch), expected)
        self.assertIs(surely_first((1, 2, 1, ())), None)
        self.assertIs(surely_first((1, 0, 0, ())), None)
        self.assertEqual(surely_first((1, 1, 0, (("q", 1),))), "q")
        self.assertIs(surely_first((1, 3, 1, (("q", 1),))), None)
        self.assertEqual(surely_first((1, 4, 1, (("q", 2),))), "q")
        self.assertIs(surely_first((2, 4, 0, (("a", 2), ("b", 2)))), None)
        self.assertEqual(perhaps_first((1, 0, 0, ())), ((), False))
        self.assertEqual(perhaps_first((1, 2, 1, ())), ((), True))
        self.assertEqual(perhaps_first((1, 3, 1, (("q", 1),))), (("q",), True))
        self.assertEqual(perhaps_first((1, 4, 1, (("q", 2),))), (("q",), False))
        self.assertEqual(perhaps_first((2, 8, 1, (("a", 3), ("c", 2)))), (("a", "c"), False))
        self.assertEqual(perhaps_first((2, 9, 1, (("a", 4), ("c", 2)))), (("a",), False))

    def test_errors(self):
        for call in (surely_first, perhaps_first):
            for sketch in [(1, 1, 0, ()), [1, 0, 0, ()], (65, 0, 0, ()), *odd_values()]:
                self.assertRaises(NoSketch, call, sketch)


if __name__ == "__main__":
    unittest.main()
