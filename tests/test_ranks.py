"""Point 15 but for turned trees: rank sketches, thinned, poured and asked."""

import itertools
import math
import random
import unittest
from fractions import Fraction

from knownends.errors import NoMarks, NoNumber, NoNumbers, NoPlace, NoRanks, NoRoom, NoTree, OtherRoom
from knownends.ranks import (
    bare_ranks, ends_at, is_ranks, item_ends, openness, poured_ranks, rank_at, ranks_of, ranks_tree, thinned,
)
from tests.helper import odd_values
from tests.numbering import (
    POUR, count_at, drawn_marks, drawn_tree, drawn_values, items, number, pair, places_about, slow_ends, slow_openness,
    stream,
)

NO_ROOMS = [0, 65, -1, True, False, None, "1", (), (1,), [1], {}, 10 ** 20]
NO_FRACTIONS = [
    (2, 4), (0, 2), (0, 0), (1, 0), (1, -1), (-1, -2), (3, -3), (-2, 4), (2, 2), (True, 1), (1, True), (False, 1), 1,
    None,
    "1", (1,), (1, 2, 3), [1, 2], (1, None), ("1", 1), (1, "1"), ((1, 1), 1), {}, (10 ** 29, 10 ** 28),
]
NO_PLACES = [(fraction, 0) for fraction in NO_FRACTIONS] + [((1, 1), side) for side in (2, -1, True, False, None, "0")]
NO_PLACES += [(1, 1), ((1, 1),), ((1, 1), 0, 0), [(1, 1), 0], ([1, 1], 0), None, 0, "", (), {}, True]
MARK = ((1, 2), 1, 3, 2, 5)
RANKS = (2, 9, (MARK, ((2, 3), 4, 5, 5, 9)))


def of_stream(room, numbers):
    """The rank sketch of some numbers."""
    return ranks_of(room, stream(*numbers))


def exact(numbers):
    """All marks of some numbers, each with just what is true."""
    values = sorted(set(numbers))
    below = [sum(one < value for one in numbers) for value in values]
    up_to = [sum(one <= value for one in numbers) for value in values]
    return tuple((pair(value), low, low, high, high) for value, low, high in zip(values, below, up_to))


def greedy(many, marks, gap):
    """The choice of marks that the document tells for an openness, or None."""
    chosen, level = [], 0
    while many - level > gap:
        ahead = [mark for mark in marks if not chosen or number(mark[0]) > number(chosen[-1][0])]
        near = [mark for mark in ahead if mark[2] - level <= gap]
        if not near:
            return None
        chosen.append(near[-1])
        level = near[-1][3]
    return tuple(chosen)


class TestIsRanks(unittest.TestCase):
    def test_ranks(self):
        right = [(1, 0, ()), (64, 0, ()), (1, 7, ()), RANKS, (1, 1, (((0, 1), 0, 0, 1, 1),)), (1, 9, (MARK,))]
        right += [(1, 9, (((-7, 3), 0, 8, 9, 9),)), (2, 2, (((-1, 2), 0, 0, 1, 1), ((-1, 3), 1, 1, 2, 2)))]
        for thing in right:
            self.assertIs(is_ranks(thing), True, thing)

    def test_rooms_and_numbers(self):
        for room in NO_ROOMS:
            self.assertIs(is_ranks((room, 0, ())), False)
            self.assertIs(is_ranks((room, 9, ())), False)
        for many in (-1, True, False, None, "9", (9,), [9]):
            self.assertIs(is_ranks((2, many, ())), False)
        self.assertIs(is_ranks((2, 10 ** 30 - 1, ())), True)

    def test_each_bound_of_a_mark(self):
        for many in range(4):
            for a, b, c, d in itertools.product(range(-1, 5), repeat=4):
                right = 0 <= a < c <= many and a <= b < d <= many and c <= d
                self.assertIs(is_ranks((1, many, (((1, 2), a, b, c, d),))), right)

    def test_each_bound_of_neighbours(self):
        first = ((1, 2), 0, 1, 2, 3)
        for a, b in itertools.product(range(6), repeat=2):
            for c, d in ((a + 1, max(a, b) + 1), (8, 9)):
                right = a <= b and 2 <= a and 3 <= b
                self.assertIs(is_ranks((2, 9, (first, ((2, 3), a, b, c, d)))), right)

    def test_values_ascend_as_numbers(self):
        values = [pair(Fraction(top, bottom)) for top in (-7, -1, 0, 1, 3, 10) for bottom in (1, 2, 3, 7)]
        for one, other in itertools.product(values, repeat=2):
            thing = (2, 2, ((one, 0, 0, 1, 1), (other, 1, 1, 2, 2)))
            self.assertIs(is_ranks(thing), number(one) < number(other))
        great = 10 ** 29
        marks = [((great, great + 1), 0, 0, 1, 1), ((great + 1, great + 2), 1, 1, 2, 2)]
        self.assertIs(is_ranks((2, 2, tuple(marks))), True)
        self.assertIs(is_ranks((2, 2, (marks[1], marks[0]))), False)

    def test_values_are_fractions(self):
        for value in NO_FRACTIONS:
            self.assertIs(is_ranks((1, 9, ((value, 0, 0, 1, 1),))), False, value)

    def test_how_many_marks(self):
        for room in (1, 2, 63, 64):
            for many in (room - 1, room, room + 1):
                self.assertIs(is_ranks((room, 99, exact(range(many)))), many <= room)

    def test_other_things(self):
        wrong = [
            list(RANKS), RANKS[:2], RANKS + (0,), (2, 9, [MARK]), (2, 9, (list(MARK),)), (2, 9, MARK),
            (2, 9, (MARK[:4],)),
            (2, 9, (MARK + (1,),)), (2, 9, (None,)), (2, 9, None), (2, 9, {}), (2, 9, ((1, 2),)), (2, 0, 0, ()),
            (2, 9, (MARK, MARK)), (2, 1, (((1, 1), False, 0, 1, 1),)), (2, 1, (((1, 1), 0, 0, True, 1),)),
            (2, 1, (((1, 1), 0, False, 1, 1),)), (2, 1, (((1, 1), 0, 0, 1, True),)), (2, 1, (((1, 1), None, 0, 1, 1),)),
        ]
        for thing in [*wrong, *odd_values()]:
            self.assertIs(is_ranks(thing), False, repr(thing)[:60])

    def test_bare(self):
        for room in range(1, 65):
            self.assertEqual(bare_ranks(room), (room, 0, ()))
        for room in NO_ROOMS:
            self.assertRaises(NoRoom, bare_ranks, room)


class TestEnds(unittest.TestCase):
    def test_listed(self):
        for place, pair_of_ends in (
            (((0, 1), 0), (0, 3)), (((0, 1), 1), (0, 3)), (((1, 2), 0), (1, 3)), (((1, 2), 1), (2, 5)),
            (((3, 5), 0), (2, 5)), (((3, 5), 1), (2, 5)), (((2, 3), 0), (4, 5)), (((2, 3), 1), (5, 9)),
            (((7, 10), 0), (5, 9)), (((10 ** 29, 1), 1), (5, 9)), (((-10 ** 29, 1), 1), (0, 3)),
        ):
            self.assertEqual(ends_at(RANKS, place), pair_of_ends, place)

    def test_against_the_words(self):
        rng = random.Random(15)
        for _ in range(150):
            many, marks = drawn_marks(rng, rng.randint(0, 6))
            ranks = (6, many, marks)
            self.assertIs(is_ranks(ranks), True)
            for place in places_about([number(mark[0]) for mark in marks]):
                self.assertEqual(ends_at(ranks, place), slow_ends(many, marks, place))
            self.assertEqual(openness(ranks), slow_openness(many, marks))

    def test_openness(self):
        self.assertEqual(openness(bare_ranks(3)), 0)
        self.assertEqual(openness((3, 17, ())), 17)
        self.assertEqual(openness(RANKS), 4)
        self.assertEqual(openness((1, 20, (((0, 1), 0, 0, 1, 1),))), 19)
        self.assertEqual(openness((1, 20, (((0, 1), 19, 19, 20, 20),))), 19)
        self.assertEqual(openness((2, 20, (((0, 1), 0, 0, 1, 1), ((5, 1), 19, 19, 20, 20)))), 18)
        self.assertEqual(openness((1, 9, (((0, 1), 0, 8, 1, 9),))), 8)

    def test_item_ends_listed(self):
        one, other = RANKS[2][0][0], RANKS[2][1][0]
        told = [item_ends(RANKS, index) for index in range(9)]
        self.assertEqual(told[:4], [(None, one), (None, one), (None, other), (one, other)])
        self.assertEqual(told[4:], [(one, other), (other, None), (other, None), (other, None), (other, None)])
        self.assertEqual(item_ends((1, 2, ()), 1), (None, None))

    def test_item_ends_of_streams(self):
        rng = random.Random(16)
        for _ in range(100):
            tree = drawn_tree(rng, rng.randint(1, 4), 8, drawn_values(rng, 9))
            room = rng.randint(1, 4)
            ranks = ranks_tree(room, tree)
            whole = sorted(items(tree))
            for index, item in enumerate(whole):
                low, high = item_ends(ranks, index)
                lows = [mark[0] for mark in ranks[2] if mark[2] <= index]
                highs = [mark[0] for mark in ranks[2] if mark[3] > index]
                self.assertEqual((low, high), (lows[-1] if lows else None, highs[0] if highs else None))
                self.assertTrue(low is None or number(low) <= item)
                self.assertTrue(high is None or item <= number(high))

    def test_errors(self):
        for value in [*odd_values(), list(RANKS), (2, 9, (MARK, MARK))]:
            self.assertRaises(NoRanks, ends_at, value, ((1, 1), 0))
            self.assertRaises(NoRanks, ends_at, value, None)
            self.assertRaises(NoRanks, openness, value)
            self.assertRaises(NoRanks, item_ends, value, 0)
            self.assertRaises(NoRanks, item_ends, value, None)
        for place in [*NO_PLACES, *odd_values()]:
            self.assertRaises(NoPlace, ends_at, RANKS, place)
        for index in (9, 10, -1, True, False, None, "1", (1,), [1], {}, 10 ** 29):
            self.assertRaises(NoNumber, item_ends, RANKS, index)
        self.assertRaises(NoNumber, item_ends, bare_ranks(1), 0)


class TestThinned(unittest.TestCase):
    def test_against_all_choices(self):
        rng = random.Random(17)
        for _ in range(400):
            room, marked = rng.randint(1, 4), rng.randint(0, 8)
            many, marks = drawn_marks(rng, marked)
            told = thinned(room, many, marks)
            self.assertIs(is_ranks(told), True)
            self.assertEqual(told[:2], (room, many))
            if marked <= room:
                self.assertEqual(told[2], marks)
                continue
            choices = [part for size in range(room + 1) for part in itertools.combinations(marks, size)]
            least = min(slow_openness(many, part) for part in choices) if marked < 6 else None
            quick = min(openness((room, many, part)) for part in choices)
            self.assertIn(least, (None, quick))
            self.assertEqual(told[2], greedy(many, marks, quick))
            self.assertEqual(openness(told), quick)

    def test_several_that_are_as_good(self):
        # With an openness of 2 the first mark may be the one at 0, 1 or 2, of which 2 is the farthest.
        self.assertEqual(of_stream(2, range(6)), (2, 6, tuple(exact(range(6))[at] for at in (2, 5))))
        self.assertEqual(of_stream(1, range(3)), (1, 3, exact(range(3))[1:2]))
        self.assertEqual(of_stream(1, range(4)), (1, 4, exact(range(4))[2:3]))
        # Fewer marks than room, as no choice is less open than 90 and one mark is enough for that.
        marks = ((pair(0), 0, 90, 91, 91), *[(pair(at), at, at, at + 1, at + 1) for at in range(91, 95)])
        self.assertEqual(thinned(4, 95, marks), (4, 95, marks[:1]))
        self.assertEqual(thinned(4, 181, marks), (4, 181, marks[:1]))
        self.assertEqual(thinned(4, 182, marks), (4, 182, (marks[0], marks[4])))
        self.assertEqual(thinned(5, 95, marks), (5, 95, marks))

    def test_many_marks(self):
        for many in (64, 65, 66, 128, 1000):
            marks = exact(range(many))
            for room in (1, 2, 63, 64):
                told = thinned(room, many, marks)
                gap = openness(told)
                self.assertEqual(told[2], marks if many <= room else greedy(many, marks, gap))
                if many > room:
                    self.assertLessEqual(len(told[2]), room)
                    nearer = greedy(many, marks, gap - 1)
                    self.assertTrue(nearer is None or len(nearer) > room)

    def test_errors(self):
        for room in NO_ROOMS:
            self.assertRaises(NoRoom, thinned, room, 9, (MARK,))
            self.assertRaises(NoRoom, thinned, room, None, None)
        for many in (-1, True, False, None, "9", (9,), 8, 0):
            self.assertRaises(NoMarks, thinned, 2, many, RANKS[2])
        self.assertRaises(NoMarks, thinned, 2, True, ())
        wrong = [value for value in odd_values() if value != ()]
        wrong += [[MARK], (MARK, MARK), RANKS[2][::-1], (((1, 2), 0, 0, 1, True),), (MARK[:4],)]
        wrong += [(((2, 4), 0, 0, 1, 1),)]
        for marks in wrong:
            self.assertRaises(NoMarks, thinned, 2, 9, marks)
        for at in range(100):
            marks = list(exact(range(100)))
            marks[at] = marks[at][:1] + (0, 0, 0, 0)
            self.assertRaises(NoMarks, thinned, 64, 100, tuple(marks))


class TestStreams(unittest.TestCase):
    def test_exact_up_to_room(self):
        rng = random.Random(18)
        for room in (1, 2, 5, 64):
            for unlike in (0, 1, room - 1, room):
                values = [Fraction(at, 3) for at in range(unlike)]
                numbers = values + [rng.choice(values) for _ in range(20 if values else 0)]
                rng.shuffle(numbers)
                self.assertEqual(of_stream(room, numbers), (room, len(numbers), exact(numbers)))

    def test_one_more_than_room(self):
        rng = random.Random(19)
        for room in (1, 2, 5, 63, 64):
            numbers = [rng.randint(0, room) for _ in range(200)] + list(range(room + 1))
            told = of_stream(room, numbers)
            self.assertEqual(told, thinned(room, len(numbers), exact(numbers)))
            self.assertLessEqual(len(told[2]), room)
            for place in places_about(set(numbers)):
                low, high = ends_at(told, place)
                self.assertTrue(low <= count_at(numbers, place) <= high)

    def test_like_items(self):
        self.assertEqual(of_stream(1, [Fraction(1, 3)] * 9), (1, 9, (((1, 3), 0, 0, 9, 9),)))
        self.assertEqual(of_stream(1, [2] * 3 + [5] * 7), (1, 10, (((5, 1), 3, 3, 10, 10),)))
        self.assertEqual(of_stream(1, [5] * 3 + [2] * 7), (1, 10, (((2, 1), 0, 0, 7, 7),)))

    def test_order_of_the_items_does_not_matter(self):
        rng = random.Random(20)
        numbers = drawn_values(rng, 40)
        first = of_stream(5, numbers)
        for _ in range(5):
            rng.shuffle(numbers)
            self.assertEqual(of_stream(5, numbers), first)

    def test_great_fractions(self):
        great = 10 ** 30 - 1
        values = [(-great, 1), (-great, great - 1), (-1, great), (0, 1), (1, great), (1, great - 1)]
        values += [(great - 2, great - 1), (great - 1, great), (1, 1), (great, great - 1), (great, 1)]
        told = ranks_of(64, tuple(values[::2] + values[1::2][::-1]))
        self.assertEqual([mark[0] for mark in told[2]], values)

    def test_the_longest(self):
        rng = random.Random(21)
        numbers = [Fraction(rng.randint(-10 ** 6, 10 ** 6), rng.randint(1, 9)) for _ in range(20000)]
        told = of_stream(64, numbers)
        self.assertEqual((told[1], is_ranks(told)), (20000, True))
        self.assertLessEqual(openness(told), math.ceil(20000 / 64) - 1)
        self.assertRaises(NoNumbers, of_stream, 64, numbers + [1])
        self.assertEqual(ranks_of(2, ((1, 1),) * 20000), (2, 20000, (((1, 1), 0, 0, 20000, 20000),)))
        self.assertRaises(NoNumbers, ranks_of, 2, ((1, 1),) * 20001)

    def test_errors(self):
        for room in NO_ROOMS:
            self.assertRaises(NoRoom, ranks_of, room, ((1, 1),))
            self.assertRaises(NoRoom, ranks_of, room, None)
        for value in [value for value in odd_values() if value != ()] + [[(1, 1)], (1, 1), "1"]:
            self.assertRaises(NoNumbers, ranks_of, 2, value)
        for fraction in NO_FRACTIONS:
            self.assertRaises(NoNumbers, ranks_of, 2, (fraction,))
            self.assertRaises(NoNumbers, ranks_of, 2, ((1, 1), fraction, (1, 2)))


class TestPoured(unittest.TestCase):
    def poured_slowly(self, one, other):
        """Two rank sketches poured by the words of the document."""
        marks = []
        for value in sorted({number(mark[0]) for mark in one[2] + other[2]}):
            ends = []
            for side in (0, 1):
                pairs = [slow_ends(ranks[1], ranks[2], (pair(value), side)) for ranks in (one, other)]
                ends += [pairs[0][0] + pairs[1][0], pairs[0][1] + pairs[1][1]]
            marks.append((pair(value), *ends))
        return thinned(one[0], one[1] + other[1], tuple(marks))

    def test_listed(self):
        one, other = of_stream(3, [1, 2, 2]), of_stream(3, [2, 3])
        self.assertEqual(poured_ranks(one, other), of_stream(3, [1, 2, 2, 2, 3]))
        first = (1, 3, (((2, 1), 1, 1, 3, 3),))
        self.assertEqual(poured_ranks(first, (1, 2, (((2, 1), 0, 0, 1, 1),))), (1, 5, (((2, 1), 1, 1, 4, 4),)))
        self.assertEqual(poured_ranks(first, (1, 2, ())), (1, 5, (((2, 1), 1, 3, 3, 5),)))
        self.assertEqual(poured_ranks(first, (1, 2, (((3, 1), 1, 1, 2, 2),))), (1, 5, (((2, 1), 1, 2, 3, 4),)))

    def test_against_the_words(self):
        rng = random.Random(22)
        for _ in range(300):
            room = rng.randint(1, 4)
            one, other = [(room, *drawn_marks(rng, rng.randint(0, room))) for _ in range(2)]
            told = poured_ranks(one, other)
            self.assertIs(is_ranks(told), True)
            self.assertEqual(told, self.poured_slowly(one, other))
            self.assertEqual(told, poured_ranks(other, one))

    def test_with_a_bare_one(self):
        rng = random.Random(23)
        for _ in range(40):
            one = (4, *drawn_marks(rng, rng.randint(0, 4)))
            self.assertEqual(poured_ranks(one, bare_ranks(4)), one)
            self.assertEqual(poured_ranks(bare_ranks(4), one), one)

    def test_errors(self):
        for value in [*odd_values(), list(RANKS)]:
            self.assertRaises(NoRanks, poured_ranks, value, RANKS)
            self.assertRaises(NoRanks, poured_ranks, RANKS, value)
            self.assertRaises(NoRanks, poured_ranks, bare_ranks(3), value)
        self.assertRaises(OtherRoom, poured_ranks, RANKS, bare_ranks(3))
        self.assertRaises(OtherRoom, poured_ranks, bare_ranks(64), RANKS)


class TestTrees(unittest.TestCase):
    def walked(self, room, tree):
        """The rank sketch of a number tree, step by step."""
        pile = []
        for step in tree:
            if step == POUR:
                above = pile.pop()
                pile.append(poured_ranks(pile.pop(), above))
            else:
                pile.append(ranks_of(room, step[1]))
        return pile[0]

    def test_ends_hold_the_truth(self):
        rng = random.Random(24)
        for _ in range(200):
            values = drawn_values(rng, rng.randint(1, 9))
            tree, room = drawn_tree(rng, rng.randint(1, 6), 8, values), rng.randint(1, 4)
            ranks = ranks_tree(room, tree)
            self.assertEqual(ranks, self.walked(room, tree))
            numbers = items(tree)
            self.assertEqual(ranks[1], len(numbers))
            for place in places_about(values):
                low, high = ends_at(ranks, place)
                self.assertTrue(low <= count_at(numbers, place) <= high)
                self.assertEqual(rank_at(tree, place), count_at(numbers, place))

    def test_the_bound_of_the_openness(self):
        rng = random.Random(25)
        for _ in range(400):
            room = rng.randint(1, 5)
            many, marks = drawn_marks(rng, rng.randint(0, 30))
            before = slow_openness(many, marks) if len(marks) < 8 else openness((64, many, marks))
            bound = before + math.ceil(Fraction(many, room)) - 1
            self.assertLessEqual(openness(thinned(room, many, marks)), max(bound, 0))
        for room in (1, 2, 3, 64):
            for many in (1, 2, 63, 64, 65, 500):
                self.assertLessEqual(openness(of_stream(room, range(many))), -(-many // room) - 1)

    def test_poured_in_several_orders(self):
        put = [("numbers", stream(*row)) for row in ([1, 2, 3, 4], [2, 2], [], [Fraction(1, 2), 9])]
        trees = [
            (*put, POUR, POUR, POUR), (put[0], put[1], POUR, put[2], POUR, put[3], POUR),
            (put[3], put[2], POUR, put[1], put[0], POUR, POUR),
        ]
        numbers = items(trees[0])
        self.assertEqual([ranks_tree(64, tree) for tree in trees], [of_stream(64, numbers)] * 3)
        for tree in trees:
            self.assertEqual(ranks_tree(2, tree), self.walked(2, tree))
            self.assertEqual(rank_at(tree, ((2, 1), 1)), 5)

    def test_a_long_stream_and_a_long_tree(self):
        numbers = tuple((at * 7 % 50000, 1) for at in range(50000))
        told = ranks_tree(8, (("numbers", numbers),))
        self.assertEqual((told[1], is_ranks(told)), (50000, True))
        self.assertLessEqual(openness(told), 50000 // 8 - 1)
        self.assertRaises(NoTree, ranks_tree, 8, (("numbers", numbers), ("numbers", ((1, 1),)), POUR))
        steps = (("numbers", ((1, 1),)),) + (("numbers", ((2, 1), (0, 1))), POUR) * 2499
        self.assertEqual(ranks_tree(3, steps)[2][-1], ((2, 1), 2500, 2500, 4999, 4999))
        self.assertRaises(NoTree, ranks_tree, 3, steps + (("numbers", ()), POUR))

    def test_errors(self):
        for room in NO_ROOMS:
            self.assertRaises(NoRoom, ranks_tree, room, (("numbers", ()),))
            self.assertRaises(NoRoom, ranks_tree, room, None)
        put = ("numbers", ((1, 1),))
        wrong = [(), put, (POUR,), (put, put), (put, POUR), (put, put, POUR, POUR), [put], (list(put),)]
        wrong += [(("numbers",),), (("numbers", [(1, 1)]),), (("numbers", (), ()),), (("number", ()),)]
        wrong += [(("stream", ()),), (("stream", ("a",)),), (put, put, ("pour", ())), (put, put, ("pours",))]
        wrong += [(("numbers", (fraction,)),) for fraction in NO_FRACTIONS] + odd_values()
        for tree in wrong:
            self.assertRaises(NoTree, ranks_tree, 2, tree)
            self.assertRaises(NoTree, rank_at, tree, ((1, 1), 0))
            self.assertRaises(NoTree, rank_at, tree, None)
        for place in [*NO_PLACES, *odd_values()]:
            self.assertRaises(NoPlace, rank_at, (put,), place)


if __name__ == "__main__":
    unittest.main()
