"""Point 9: truths of a sketch, and a paper for each."""

import unittest

from knownends.errors import NoSketch, NoTruth, TooMany
from knownends.sketches import fed, poured, sketch_of
from knownends.streams import counts_of, is_tree
from knownends.truths import is_paper, is_truth, paper
from tests.helper import odd_values
from tests.listing import SKETCHES, STRANGERS, all_counts, led_to, lost, truths

POUR = ("pour",)
NO_SKETCHES = [(0, 0, 0, ()), [1, 0, 0, ()], (1, 1, 0, ()), (2, 2, 1, ()), (1, 3, 1, ()), (1, 0, 0, [])]


def put(*names):
    """The step that puts a stream of these names on the pile."""
    return ("stream", names)


def beside(truth):
    """Counts one step beside these: one more or less of a name, one moved, a name exchanged."""
    table = dict(truth)
    names = [*table, "z"]
    told = []
    for one in names:
        told.append({**table, one: table.get(one, 0) + 1})
        told.append({**table, one: table.get(one, 0) - 1})
        for other in names:
            if one != other:
                told.append({**table, one: table.get(one, 0) + 1, other: table.get(other, 0) - 1})
    rows = [tuple(sorted((name, count) for name, count in row.items() if count > 0)) for row in told]
    return rows + [truth[1:], truth[:-1], truth + (("zz", 1),)]


class TestIsTruth(unittest.TestCase):
    def test_just_what_can_have_been(self):
        for room, names, most in ((1, "ab", 7), (1, "abc", 5), (2, "abcd", 5)):
            for many, level in enumerate(led_to(room, names, most)):
                found = {}
                for sketch, counts in level:
                    found.setdefault(sketch, set()).add(counts)
                for sketch in found:
                    for counts in all_counts(names, len(names), many):
                        self.assertIs(is_truth(sketch, counts), counts in found[sketch], (sketch, counts))

    def test_the_listed_ones(self):
        for sketch in SKETCHES:
            if lost(sketch) <= 6:
                for truth in truths(sketch, [*"abc", *STRANGERS[:6]])[::7]:
                    self.assertIs(is_truth(sketch, truth), True)

    def test_one_step_beside(self):
        for sketch in SKETCHES:
            for truth in truths(sketch, "abcopqz")[::37]:
                for counts in beside(truth):
                    told = is_truth(sketch, counts)
                    kept, table = dict(sketch[3]), dict(counts)
                    taken = [table.get(name, 0) - kept.get(name, 0) for name in {*kept, *table}]
                    right = sum(taken) == lost(sketch) and all(0 <= one <= sketch[2] for one in taken)
                    self.assertIs(told, right, (sketch, counts))

    def test_counts_alone(self):
        sketch = (2, 5, 1, (("a", 1), ("b", 1)))
        self.assertIs(is_truth(sketch, (("a", 2), ("b", 1), ("c", 1), ("d", 1))), True)
        wrong = [
            [("a", 2), ("b", 1), ("c", 1), ("d", 1)], (("a", 2), ("b", True), ("c", 1), ("d", 1)),
            (("b", 1), ("a", 2), ("c", 1), ("d", 1)), (("a", 2), ("b", 1), ("c", 1), ("c", 1)),
            (["a", 2], ("b", 1), ("c", 1), ("d", 1)), (("a", 2), ("c", 1), ("d", 1), ("e", 1)),
            (("a", 1), ("b", 1), ("c", 2), ("d", 1)), (("a", 3), ("b", 1), ("c", 1)), (("a", 2), ("b", 1), ("c", 2)),
            (("a", 2), ("b", 1), ("c", 1), ("d", 1), ("e", 0)), (("a", 2), ("b", 1), ("c", 1), ("D", 1)),
            (("a", 2), ("b", 2), ("c", 1), ("d", 1)), (("a", 2), ("b", 1), ("c", 1)), sketch,
        ]
        for thing in [*wrong, *odd_values()]:
            self.assertIs(is_truth(sketch, thing), False, repr(thing)[:60])

    def test_nothing_was_lost(self):
        sketch = (3, 6, 0, (("a", 1), ("b", 5)))
        self.assertIs(is_truth(sketch, sketch[3]), True)
        self.assertIs(is_truth(sketch, (("a", 2), ("b", 4))), False)
        self.assertIs(is_truth(sketch, (("a", 1), ("b", 4), ("c", 1))), False)
        self.assertIs(is_truth((5, 0, 0, ()), ()), True)

    def test_great_numbers(self):
        big = 10 ** 10
        sketch = (1, 3 * big, big, (("a", big),))
        self.assertIs(is_truth(sketch, (("a", 2 * big), ("b", big))), True)
        self.assertIs(is_truth(sketch, (("a", big), ("b", big), ("c", big))), True)
        self.assertIs(is_truth(sketch, (("a", big), ("b", big), ("c", big - 1), ("d", 1))), True)
        self.assertIs(is_truth(sketch, (("a", 2 * big), ("b", big - 1))), False)
        self.assertIs(is_truth(sketch, (("a", 2 * big - 1), ("b", big + 1))), False)
        self.assertIs(is_truth(sketch, (("b", big), ("c", big), ("d", big))), False)

    def test_no_sketches(self):
        for sketch in [*NO_SKETCHES, *odd_values()]:
            self.assertRaises(NoSketch, is_truth, sketch, ())
            self.assertRaises(NoSketch, paper, sketch, None)
            self.assertRaises(NoSketch, is_paper, sketch, None, None)


class TestPaper(unittest.TestCase):
    def check(self, sketch, truth):
        """That a paper of this truth leads to this sketch."""
        tree = paper(sketch, truth)
        self.assertIs(is_tree(tree), True)
        self.assertEqual(counts_of(tree), truth)
        self.assertEqual(sketch_of(sketch[0], tree), sketch)
        self.assertIs(is_paper(sketch, truth, tree), True)
        self.assertEqual(paper(sketch, truth), tree)

    def test_all_truths_of_small_sketches(self):
        for sketch in SKETCHES:
            for truth in truths(sketch, "abcopqrs"[:3 + lost(sketch)]):
                self.check(sketch, truth)

    def test_what_a_tree_leads_to(self):
        tree = (put(*"abcdeabcab"), put(*"fghiffgh"), POUR, put(*"aaabbbzyx"), POUR)
        for room in (1, 2, 3, 4, 5, 8):
            sketch = sketch_of(room, tree)
            self.assertIs(is_truth(sketch, counts_of(tree)), True)
            self.assertIs(is_paper(sketch, counts_of(tree), tree), True)
            self.check(sketch, counts_of(tree))

    def test_few_names_and_great_lost(self):
        for off in (1, 7, 300, 375):
            kept = (("a", 9), ("b", 4))
            for many in (3 * off, 4 * off, 4 * off - 1):
                sketch = (2, many + 13 if many + 13 <= 1500 else many, off, kept if many + 13 <= 1500 else ())
                if 3 * off <= lost(sketch) <= 4 * off:
                    left = lost(sketch) - 3 * off
                    for names in ("abcd", "acde", "bcde", "cdef"):
                        shares = dict(zip(names, (off, off, left, off)))
                        table = {name: dict(sketch[3]).get(name, 0) + shares.get(name, 0) for name in "abcdef"}
                        self.check(sketch, tuple((name, count) for name, count in table.items() if count > 0))

    def test_bounds_of_lost(self):
        names = sorted(a + b for a in "abcdefghijkl" for b in "abcdefghijkl")
        for room in (1, 2, 7, 63, 64):
            for off in (1, 2, 5, 1500 // (2 * room)):
                for many in ((room + 1) * off, 2 * room * off - 1, 2 * room * off):
                    if (room + 1) * off <= many <= min(1500, 2 * room * off):
                        whole, rest = divmod(many, off)
                        truth = [(name, off) for name in names[:whole]] + [(name, rest) for name in names[whole:][:1]]
                        self.check((room, many, off, ()), tuple(row for row in truth if row[1]))

    def test_each_once(self):
        names = sorted(a + b + c for a in "abcdefghijkl" for b in "abcdefghijkl" for c in "abcdefghijkl")
        self.check((1, 1500, 750, ()), tuple((name, 1) for name in names[:1500]))
        self.check((64, 1500, 12, ()), tuple((name, 1) for name in names[:1500]))

    def test_how_many_items(self):
        for room, off in ((1, 750), (2, 400), (1, 0), (64, 0)):
            kept = 1500 - (room + 1) * off
            counts = (("a", kept),) if kept else ()
            fresh = tuple(("b" + letter, off) for letter in "abcdef"[:room + 1]) if off else ()
            self.check((room, 1500, off, counts), counts + fresh)
            more = (("a", kept + 1),)
            with self.assertRaises(TooMany) as caught:
                paper((room, 1501, off, more), more + fresh)
            self.assertEqual(caught.exception.most, 1500)
            self.assertIs(is_paper((room, 1501, off, more), more + fresh, (put(*["a"] * 1501),)), off == 0)

    def test_errors(self):
        sketch = (2, 5, 1, (("a", 1), ("b", 1)))
        for truth in [(("a", 1), ("b", 1)), (("a", 5),), (), [], *odd_values()]:
            self.assertRaises(NoTruth, paper, sketch, truth)
            self.assertRaises(NoTruth, is_paper, sketch, truth, None)
        self.assertRaises(NoTruth, paper, (1, 1501, 0, (("a", 1501),)), ())
        self.assertRaises(NoTruth, is_paper, (1, 1501, 0, (("a", 1501),)), (("a", 1500), ("b", 1)), ())


class TestIsPaper(unittest.TestCase):
    def test_other_trees(self):
        tree = (put("a", "b"), put("a"), POUR)
        sketch = sketch_of(1, tree)
        self.assertEqual(sketch, (1, 3, 1, (("a", 1),)))
        truth = (("a", 2), ("b", 1))
        self.assertIs(is_paper(sketch, truth, tree), True)
        self.assertIs(is_paper(sketch, truth, (put("a", "a", "b"),)), True)
        self.assertIs(is_paper(sketch, truth, (put("b", "a", "a"),)), True)
        self.assertIs(is_paper(sketch, truth, (put("a"), put("b"), put("a"), POUR, POUR)), True)
        self.assertIs(is_paper(sketch, truth, (put("a", "b", "c"),)), False)
        self.assertIs(is_paper(sketch, truth, (put("a", "b"),)), False)
        self.assertIs(is_paper(sketch, (("a", 1), ("b", 1), ("c", 1)), tree), False)
        self.assertIs(is_paper(sketch, (("a", 1), ("b", 1), ("c", 1)), (put("a", "b", "c"),)), False)
        self.assertIs(is_paper(sketch, (("a", 1), ("b", 1), ("c", 1)), (put("b", "c", "a"),)), True)

    def test_the_counts_but_another_sketch(self):
        one, other = (put("a"), put("b"), POUR), (put("a", "b"),)
        self.assertEqual(sketch_of(1, one), sketch_of(1, other))
        truth = (("a", 1), ("b", 1), ("c", 2))
        sketch = sketch_of(1, (put("a", "b", "c", "c"),))
        self.assertEqual(sketch, (1, 4, 1, (("c", 2),)))
        self.assertIs(is_paper(sketch, truth, (put("a", "b", "c", "c"),)), True)
        self.assertIs(is_paper(sketch, truth, (put("a", "c", "b", "c"),)), False)
        self.assertIs(is_paper(sketch, truth, (put("a"), put("b", "c", "c"), POUR)), False)

    def test_no_trees(self):
        sketch, truth = (1, 1, 0, (("a", 1),)), (("a", 1),)
        for thing in [(), [put("a")], (["stream", ("a",)],), (put("a"), POUR), (put("a"), put()), *odd_values()]:
            self.assertIs(is_paper(sketch, truth, thing), False)
        self.assertIs(is_paper(sketch, truth, (put("a"),)), True)

    def test_the_fact_that_led_to_truths(self):
        sketch, counts = (2, 0, 0, ()), {}
        for step, name in enumerate("abcabdaceabfaagahaibjbka" * 3):
            sketch = fed(sketch, name)
            counts[name] = counts.get(name, 0) + 1
            if step % 5 == 4:
                other = sketch_of(2, (put(*"cdeca"),))
                sketch = poured(sketch, other)
                for more in "cdeca":
                    counts[more] = counts.get(more, 0) + 1
            self.assertIs(is_truth(sketch, tuple(sorted(counts.items()))), True)


if __name__ == "__main__":
    unittest.main()
