"""Point 11: sketches of two streams."""

import itertools
import random
import unittest

from knownends.errors import NoCounts, NoRoom, NoSketch, OtherRoom, TooMany
from knownends.joins import is_join_truths, join, join_truths, joined, same
from knownends.sketches import bare, is_sketch, sketch_of
from knownends.truths import is_paper, is_truth, paper
from tests.helper import odd_values
from tests.listing import SKETCHES, STRANGERS, all_sketches, lost, truths

NO_SKETCHES = [(0, 0, 0, ()), [1, 0, 0, ()], (1, 1, 0, ()), (65, 0, 0, ()), (2, 2, 1, ())]

# Of one room each: kept names in common and without, nothing lost, as little and as much lost as can be.
PAIRS = [
    ((1, 2, 1, ()), (1, 2, 1, ())),
    ((1, 3, 1, (("a", 1),)), (1, 3, 1, (("b", 1),))),
    ((1, 3, 1, (("a", 1),)), (1, 5, 1, (("a", 3),))),
    ((1, 6, 2, (("a", 2),)), (1, 3, 1, (("a", 1),))),
    ((1, 6, 2, (("a", 2),)), (1, 7, 2, (("b", 3),))),
    ((1, 4, 0, (("a", 4),)), (1, 6, 2, (("b", 2),))),
    ((1, 0, 0, ()), (1, 6, 2, (("b", 2),))),
    ((2, 3, 1, ()), (2, 4, 1, ())),
    ((2, 5, 1, (("a", 1), ("b", 1))), (2, 6, 1, (("b", 2), ("c", 1)))),
    ((2, 6, 1, (("a", 1), ("b", 1))), (2, 8, 1, (("c", 2), ("d", 2)))),
    ((2, 9, 1, (("a", 4), ("b", 1))), (2, 4, 1, ())),
    ((2, 9, 2, (("a", 3),)), (2, 5, 1, (("a", 1), ("c", 1)))),
    ((2, 10, 2, (("a", 2), ("b", 1))), (2, 5, 1, (("b", 2),))),
    ((2, 3, 0, (("a", 1), ("b", 2))), (2, 9, 2, (("b", 1), ("c", 1)))),
    ((3, 7, 1, (("a", 1), ("b", 1), ("c", 1))), (3, 5, 1, (("b", 1),))),
    ((3, 4, 1, ()), (3, 9, 1, (("a", 2), ("b", 1)))),
]


def needed(sketch):
    """How many names at least can have had what was lost."""
    return -(-lost(sketch) // sketch[2]) if sketch[2] else 0


def all_pairs(one, other):
    """All pairs of truths in which as many strangers stand as both can need, those of both in common, too."""
    names = STRANGERS[:needed(one) + needed(other)]
    kept = [name for name, _ in one[3] + other[3]]
    return truths(one, [*names, *kept]), truths(other, [*names, *kept])


def product_of(counts, others):
    """The sum of the products, told another way."""
    return sum(count * beside for name, count in counts for word, beside in others if name == word)


def by_hand(one, other):
    """The greatest sum, told another way.

    All ways to take from one as much as can be, or nothing, but from a last name what is left; to each of them the best
    answer of other, which is to take most where one has most.
    """
    room, _, off, kept = one
    names = sorted({name for name, _ in kept + other[3]})
    strangers = ["s" + letter for letter in "abcdefghijklmnopqrstuvwxyz"] + ["t" + letter for letter in "abcdefghijklmno"]
    whole, rest = divmod(lost(one), off)
    best = 0
    for many in range(min(whole, len(names)) + 1):
        for fulls in itertools.combinations(names, many):
            for last in [strangers[-1]] + [name for name in names if name not in fulls]:
                mine = dict.fromkeys(names + strangers, 0)
                mine.update(kept)
                for name in [*fulls, *strangers[:whole - many]]:
                    mine[name] += off
                mine[last] += rest
                best = max(best, answered(mine, other))
    return best


def answered(mine, other):
    """The greatest sum for these counts and a truth of other."""
    beside = dict(other[3])
    whole, rest = divmod(lost(other), other[2])
    for at, name in enumerate(sorted(mine, key=lambda name: -mine[name])[:whole + 1]):
        beside[name] = beside.get(name, 0) + (other[2] if at < whole else rest)
    return sum(mine[name] * count for name, count in beside.items())


def any_sketch(chance, room, names, most):
    """Some sketch that keeps these names."""
    off = chance.randint(1, most)
    least = (room + 1) * off
    kept = tuple((name, chance.randint(1, 2 * most)) for name in sorted(names))
    many = chance.choice((least, least + chance.randint(0, off), 2 * room * off, chance.randint(least, 2 * room * off)))
    return (room, many + sum(count for _, count in kept), off, kept)


class TestJoined(unittest.TestCase):
    def test_sums(self):
        told = [
            ((), (), 0), ((("a", 3),), (), 0), ((("a", 3),), (("a", 4),), 12), ((("a", 3),), (("b", 4),), 0),
            ((("a", 3), ("b", 1), ("d", 7)), (("a", 2), ("c", 9), ("d", 5)), 41),
            ((("a", 10 ** 29),), (("a", 10 ** 29), ("b", 1)), 10 ** 58),
        ]
        for counts, others, total in told:
            self.assertEqual(joined(counts, others), total)
            self.assertEqual(joined(others, counts), total)

    def test_errors(self):
        wrong = [(("a", 0),), (("b", 1), ("a", 1)), [("a", 1)], (("a", True),), (1, 0, 0, ()), ("a", 1)]
        for counts in [*wrong, *[value for value in odd_values() if value != () and value != (("a", 1),)]]:
            self.assertRaises(NoCounts, joined, counts, ())
            self.assertRaises(NoCounts, joined, (), counts)
            self.assertRaises(NoCounts, joined, counts, counts)


class TestJoin(unittest.TestCase):
    def test_against_all_pairs_of_truths(self):
        for one, other in [*PAIRS, *[pair[::-1] for pair in PAIRS]]:
            mine, theirs = all_pairs(one, other)
            sums = [product_of(truth, beside) for truth in mine for beside in theirs]
            self.assertEqual(join(one, other), (min(sums), max(sums)), (one, other))

    def test_all_small_sketches(self):
        sketches = [sketch for many in range(6) for sketch in all_sketches(1, many, "ab")]
        lists = {sketch: truths(sketch, ["a", "b", *STRANGERS[:4]]) for sketch in sketches}
        for one in sketches:
            for other in sketches:
                sums = [product_of(truth, beside) for truth in lists[one] for beside in lists[other]]
                self.assertEqual(join(one, other), (min(sums), max(sums)), (one, other))

    def test_itself_and_an_empty_one(self):
        sketch = (2, 5, 1, (("a", 2),))
        self.assertEqual(join(sketch, sketch), (4, 11))
        self.assertEqual(join(sketch, bare(2)), (0, 0))
        self.assertEqual(join(bare(2), sketch), (0, 0))
        self.assertEqual(join(bare(16), bare(16)), (0, 0))
        sketch = (2, 5, 0, (("a", 2), ("b", 3)))
        self.assertEqual(join(sketch, sketch), (13, 13))

    def test_great_numbers(self):
        off = 10 ** 10
        one = (1, 3 * off, off, (("a", off),))
        other = (1, 5 * off, off, (("b", 3 * off),))
        self.assertIs(is_sketch(one) and is_sketch(other), True)
        self.assertEqual(join(one, other), (0, 5 * off ** 2 + off ** 2))
        self.assertEqual(join(one, one), (off ** 2, 5 * off ** 2))

    def test_rooms_up_to_16(self):
        chance = random.Random(7)
        for room in (3, 4, 5, 16, 16, 16):
            for most in (1, 2, 9, 10 ** 9):
                one, other = [any_sketch(chance, room, chance.sample("abcdefgh", min(room, 4)), most) for _ in range(2)]
                self.assertEqual(join(one, other)[1], by_hand(one, other), (one, other))

    def test_more_kept_names_than_can_have_all_that_was_lost(self):
        chance = random.Random(11)
        for turn in range(200):
            room = turn % 4 + 2
            names = chance.sample("abcdefghij"[:2 * room + 1], 2 * room)
            # Few names in common, so that it matters from which ones how much was taken.
            at = chance.choice((0, 0, 1))
            most = chance.choice((2, 3, 50, 10 ** 9))
            one = any_sketch(chance, room, names[:room], most)
            other = any_sketch(chance, room, names[room - at:2 * room - at], most)
            self.assertEqual(join(one, other)[1], by_hand(one, other), (one, other))
            if one[1] <= 1500 and other[1] <= 1500:
                self.assertIs(is_join_truths(one, other, join_truths(one, other)), True)

    def test_what_is_left_goes_to_a_kept_name(self):
        one = (2, 17, 2, (("a", 5), ("b", 5)))
        other = (2, 12 + 2 * 20, 10, (("c", 6), ("d", 6)))
        self.assertEqual(join(one, other), (0, by_hand(one, other)))
        low, high = join_truths(one, other)
        self.assertEqual([count for name, count in high[0] if name in "ab"], [7, 6])
        self.assertIs(is_join_truths(one, other, (low, high)), True)

    def test_errors(self):
        for thing in [*NO_SKETCHES, *odd_values()]:
            for call in (join, join_truths, same):
                self.assertRaises(NoSketch, call, thing, bare(1))
                self.assertRaises(NoSketch, call, bare(1), thing)
                self.assertRaises(NoSketch, call, bare(17), thing)
            self.assertRaises(NoSketch, is_join_truths, thing, bare(1), None)
            self.assertRaises(NoSketch, is_join_truths, bare(1), thing, None)
        long = (1, 1501, 0, (("a", 1501),))
        wide = (17, 1501, 0, (("a", 1501),))
        calls = [join, join_truths, lambda one, other: is_join_truths(one, other, None)]
        for call in calls:
            self.assertRaises(OtherRoom, call, bare(1), bare(2))
            self.assertRaises(OtherRoom, call, bare(16), bare(17))
            self.assertRaises(OtherRoom, call, wide, long)
            self.assertRaises(NoRoom, call, bare(17), bare(17))
            self.assertRaises(NoRoom, call, wide, wide)
            self.assertRaises(NoRoom, call, bare(64), bare(64))
        for one, other in ((long, bare(1)), (bare(1), long), (long, long)):
            for call in calls[1:]:
                with self.assertRaises(TooMany) as caught:
                    call(one, other)
                self.assertEqual(caught.exception.most, 1500)
        self.assertEqual(join(long, long), (1501 ** 2, 1501 ** 2))


class TestJoinTruths(unittest.TestCase):
    def check(self, one, other):
        """That the truths told are of both, and lead to just the ends."""
        told = join_truths(one, other)
        self.assertEqual([type(told)] + [type(pair) for pair in told], [tuple] * 3)
        for truth, beside in told:
            self.assertIs(is_truth(one, truth) and is_truth(other, beside), True)
        self.assertEqual(tuple(product_of(*pair) for pair in told), join(one, other))
        self.assertIs(is_join_truths(one, other, told), True)
        self.assertEqual(join_truths(one, other), told)
        return told

    def test_small_ones(self):
        for one, other in [*PAIRS, *[pair[::-1] for pair in PAIRS]]:
            self.check(one, other)

    def test_itself_and_an_empty_one(self):
        for sketch in SKETCHES:
            self.check(sketch, sketch)
            self.check(sketch, bare(sketch[0]))
            self.check(bare(sketch[0]), sketch)

    def test_many_items_and_names(self):
        names = sorted(a + b for a in "abcd" for b in "abcdefgh")
        for first in (0, 8, 16):
            one = (16, 17 * 40 + 30 + 136, 40, tuple((name, at + 1) for at, name in enumerate(names[:16])))
            other = (16, 17 * 60 + 30 + 160, 60, tuple((name, 10) for name in names[first:first + 16]))
            self.assertIs(is_sketch(one) and is_sketch(other), True)
            for truths_of in self.check(one, other):
                self.assertIs(is_paper(one, truths_of[0], paper(one, truths_of[0])), True)
                self.assertIs(is_paper(other, truths_of[1], paper(other, truths_of[1])), True)
        self.check((1, 1500, 750, ()), (1, 1500, 700, (("a", 100),)))
        self.check((1, 1500, 750, ()), (1, 1500, 0, (("a", 1500),)))

    def test_is_join_truths(self):
        for one, other in PAIRS[:6]:
            told = low, high = join_truths(one, other)
            if join(one, other)[0] != join(one, other)[1]:
                self.assertIs(is_join_truths(one, other, (high, low)), False)
                self.assertIs(is_join_truths(one, other, (low, low)), False)
                self.assertIs(is_join_truths(one, other, (high, high)), False)
            wrong = [
                [low, high], (low,), (low, high, high), (list(low), high), (low, list(high)), low, (low, None),
                (low, (high[0],)), (low, high + high), (low, (high[0], list(high[1]))), ((low[0], ()), high),
                (low, (high[0][1:], high[1])), (low, (high[0], high[1] + (("zz", 1),))), (low[0], high[0]),
            ]
            for thing in [*wrong, *odd_values()]:
                self.assertIs(is_join_truths(one, other, thing), False, repr(thing)[:60])
            self.assertIs(is_join_truths(one, other, told), True)

    def test_is_join_truths_of_all_pairs(self):
        one, other = (1, 3, 1, (("a", 1),)), (1, 3, 1, (("b", 1),))
        low, high = join(one, other)
        mine, theirs = all_pairs(one, other)
        pairs = [(truth, beside) for truth in mine for beside in theirs]
        least = join_truths(one, other)[0]
        most = join_truths(one, other)[1]
        for pair in pairs:
            self.assertIs(is_join_truths(one, other, (pair, most)), product_of(*pair) == low)
            self.assertIs(is_join_truths(one, other, (least, pair)), product_of(*pair) == high)
            self.assertIs(is_join_truths(one, other, (least, pair[::-1])), False)

    def test_counts_otherwise(self):
        one, other = PAIRS[8]
        told = join_truths(one, other)
        for at in range(2):
            for side in range(2):
                for name, count in told[at][side]:
                    table = {**dict(told[at][side]), name: count + 1}
                    rows = [list(pair) for pair in told]
                    rows[at][side] = tuple(sorted(table.items()))
                    self.assertIs(is_join_truths(one, other, tuple(tuple(row) for row in rows)), False)


class TestSame(unittest.TestCase):
    def test_as_all_truths_tell(self):
        found = []
        lists = {}
        sketches = [sketch for many in (0, 1, 3, 4, 5) for sketch in all_sketches(1, many, "ab")]
        sketches += [sketch for many in (0, 3, 4, 5, 6) for sketch in all_sketches(2, many, "ab")]
        sketches += [sketch for many in (4, 5) for sketch in all_sketches(3, many, "ab")]
        for sketch in sketches:
            lists[sketch] = set(truths(sketch, ["a", "b", *STRANGERS[:4]]))
        for one in sketches:
            for other in sketches:
                common = lists[one] & lists[other]
                sure = common and len(lists[one]) == len(lists[other]) == 1
                told = "surely" if sure else "perhaps" if common else "never"
                self.assertEqual(same(one, other), told, (one, other))
                found.append(told)
        self.assertGreater(min(found.count(word) for word in ("surely", "perhaps", "never")), 20)

    def test_longer_ones(self):
        tree = (("stream", tuple("abacabadabacabae")), ("stream", tuple("aabbccdd")), ("pour",))
        for room in (1, 2, 3, 4):
            for other in (1, 2, 3, 4):
                self.assertEqual(same(sketch_of(room, tree), sketch_of(other, tree)), "perhaps")
            self.assertEqual(same(sketch_of(room, tree), sketch_of(64, tree)), "perhaps")
            self.assertEqual(same(sketch_of(64, tree), sketch_of(room, tree)), "perhaps")
        self.assertEqual(same(sketch_of(5, tree), sketch_of(64, tree)), "surely")

    def test_unlike_rooms(self):
        self.assertEqual(same(bare(1), bare(64)), "surely")
        self.assertEqual(same((1, 1, 0, (("a", 1),)), (9, 1, 0, (("a", 1),))), "surely")
        self.assertEqual(same((1, 1, 0, (("a", 1),)), (9, 1, 0, (("b", 1),))), "never")
        self.assertEqual(same((1, 2, 1, ()), (9, 2, 0, (("a", 1), ("b", 1)))), "perhaps")
        self.assertEqual(same((9, 2, 0, (("a", 2),)), (1, 2, 1, ())), "never")
        self.assertEqual(same((2, 3, 1, ()), (1, 3, 1, (("a", 1),))), "perhaps")
        self.assertEqual(same((2, 3, 1, ()), (1, 3, 0, (("a", 3),))), "never")

    def test_great_numbers(self):
        off = 10 ** 10
        self.assertEqual(same((1, 2 * off, off, ()), (1, 2 * off, off, ())), "perhaps")
        self.assertEqual(same((1, 2 * off, off, ()), (2, 2 * off, 0, (("a", off), ("b", off)))), "perhaps")
        self.assertEqual(same((1, 2 * off, off, ()), (2, 2 * off, 0, (("a", off + 1), ("b", off - 1)))), "never")
        self.assertEqual(same((1, 2 * off, off, ()), (1, 2 * off + 1, off, (("a", 1),))), "never")


if __name__ == "__main__":
    unittest.main()
