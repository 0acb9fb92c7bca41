"""Point 15: number trees that are turned to the ends."""

import random
import unittest
from fractions import Fraction

from knownends.errors import NoPlace, NoRoom, NoSide, NoTree
from knownends.ranks import ends_at, rank_at, ranks_tree
from knownends.turning import turned_tree
from tests.helper import odd_values
from tests.numbering import POUR, count_at, drawn_tree, drawn_values, items, pair, places_about, stream

TREE = (("numbers", ((1, 1), (2, 1), (3, 1), (4, 1))), ("numbers", ((2, 1), (7, 2))), POUR)


class TestTurned(unittest.TestCase):
    def check(self, room, tree, place, side):
        """Turns a tree, and looks at what was told."""
        ranks = ranks_tree(room, tree)
        told = turned_tree(room, tree, place, side)
        self.assertEqual(ranks_tree(room, told), ranks)
        end = ends_at(ranks, place)[side]
        self.assertEqual(rank_at(told, place), end)
        self.assertEqual(count_at(items(told), place), end)
        self.assertEqual(turned_tree(room, tree, place, side), told)
        return told

    def test_drawn_trees(self):
        rng = random.Random(26)
        for _ in range(120):
            values = drawn_values(rng, rng.randint(1, 8))
            tree, room = drawn_tree(rng, rng.randint(1, 5), 7, values), rng.randint(1, 3)
            for place in places_about(values):
                for side in (0, 1):
                    self.check(room, tree, place, side)

    def test_marks_that_were_thinned_on_the_way(self):
        rng = random.Random(27)
        for _ in range(60):
            tree = drawn_tree(rng, 9, 4, [Fraction(at) for at in range(8)])
            for value in (0, 3, Fraction(7, 2), 7):
                for side in (0, 1):
                    self.check(1, tree, (pair(value), rng.randint(0, 1)), side)

    def test_listed(self):
        # Of room 1, the mark at 3 stays: below it are 2 or more, up to it 3 or more, of four.
        tree = (("numbers", stream(1, 2, 3, 4)),)
        self.assertEqual(ranks_tree(1, tree), (1, 4, (((3, 1), 2, 2, 3, 3),)))
        place = ((3, 2), 0)
        self.assertEqual([rank_at(self.check(1, tree, place, side), place) for side in (0, 1)], [0, 2])
        self.assertEqual(self.check(1, tree, ((3, 1), 0), 0), tree)
        self.assertEqual(self.check(1, tree, ((3, 1), 1), 1), tree)

    def test_nothing_is_marked(self):
        for tree in ((("numbers", ()),), (("numbers", ()), ("numbers", ()), POUR)):
            for side in (0, 1):
                self.assertEqual(self.check(1, tree, ((0, 1), 0), side), tree)

    def test_what_was_told_may_be_handed_in_again(self):
        rng = random.Random(28)
        for _ in range(10):
            values = drawn_values(rng, 6)
            tree = drawn_tree(rng, 4, 6, values)
            for turn in range(6):
                value, side = rng.choice(values), turn % 2
                tree = self.check(2, tree, (pair(value), rng.randint(0, 1)), side)
        place = ((10 ** 29 + 1, 10 ** 29), 1)
        for turn in range(8):
            tree = self.check(1, tree, place, turn % 2)
            place = (next(step[1][0] for step in tree if step[0] == "numbers" and step[1]), 0)

    def test_a_long_tree(self):
        steps = (("numbers", ((1, 2),)),) + (("numbers", ((2, 1), (0, 1), (3, 1))), POUR) * 1500
        for place in (((1, 1), 0), ((2, 1), 1), ((5, 2), 0)):
            for side in (0, 1):
                self.check(2, steps, place, side)

    def test_errors(self):
        right = (2, TREE, ((1, 1), 0), 1)
        turned_tree(*right)
        wrong = [
            (NoRoom, [0, 65, -1, True, None, "1", (1,), [1]]),
            (NoTree, [list(TREE), TREE[:2], (), None, (("stream", ()),), (("numbers", ((2, 4),)),)]),
            (NoPlace, [((2, 4), 0), ((1, 1), 2), ((1, 1), True), ((1, 0), 0), [(1, 1), 0], (1, 1), None, ((1, 1),)]),
            (NoSide, [2, -1, True, False, None, "0", (0,), [0], 10 ** 29]),
        ]
        for at, (error, values) in enumerate(wrong):
            more = [value for value in odd_values() if not (error in (NoRoom, NoSide) and type(value) is int)]
            for value in values + more:
                self.assertRaises(error, turned_tree, *right[:at], value, *right[at + 1:])
                self.assertRaises(error, turned_tree, *right[:at], value, *[None] * (3 - at))


if __name__ == "__main__":
    unittest.main()
