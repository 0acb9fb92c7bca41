"""Point 8: sketches, fed and poured."""

import itertools
import unittest

from knownends.errors import NoName, NoNumber, NoRoom, NoSketch, NoTree, OtherRoom
from knownends.sketches import bare, fed, fed_many, is_sketch, poured, sketch_of
from knownends.streams import counts_of
from tests.helper import odd_values
from tests.listing import SKETCHES, all_counts, all_sketches, led_to, lost

POUR = ("pour",)
NO_NAMES = ["", "A", "abcdefghi", "a b", "a\n", 1, None, True, (), ("a",), ["a"], {"a": 1}]
NO_NUMBERS = [-1, True, False, None, "1", (), (1,), [1], {}]


def put(*names):
    """The step that puts a stream of these names on the pile."""
    return ("stream", names)


def feeding(room, names):
    """The sketch of a stream, one fed behind another."""
    sketch = bare(room)
    for name in names:
        sketch = fed(sketch, name)
    return sketch


class TestIsSketch(unittest.TestCase):
    def test_sketches(self):
        for thing in SKETCHES:
            self.assertIs(is_sketch(thing), True)

    def test_each_bound(self):
        for room in (1, 2, 3, 63, 64):
            for off in (0, 1, 2, 7, 10 ** 9):
                for kept in ((), (("a", 1),), (("a", 10 ** 10),)):
                    total = sum(count for _, count in kept)
                    low, high = (room + 1) * off + total, 2 * room * off + total
                    for many in (low, high, (low + high) // 2):
                        self.assertIs(is_sketch((room, many, off, kept)), True)
                    for many in (low - 1, high + 1, low - 2, high + 10):
                        self.assertIs(is_sketch((room, many, off, kept)), False)

    def test_how_many_are_kept(self):
        names = sorted(a + b for a in "abcdefghi" for b in "abcdefghi")
        for room in (1, 2, 63, 64):
            for many in (room - 1, room, room + 1):
                kept = tuple((name, 1) for name in names[:many])
                self.assertIs(is_sketch((room, many, 0, kept)), many <= room)

    def test_rooms(self):
        for room in (0, 65, -1, True, False, None, "1", (), (1,), [1], 10 ** 20):
            self.assertIs(is_sketch((room, 0, 0, ())), False)
        for room in (1, 2, 64):
            self.assertIs(is_sketch((room, 0, 0, ())), True)

    def test_other_things(self):
        wrong = [
            [1, 0, 0, ()], (1, 0, 0), (1, 0, 0, (), ()), (1, 0, 0, []), (1, False, 0, ()), (1, 0, False, ()),
            (1, None, 0, ()), (1, 0, None, ()), (1, 0, 0, None), (1, 0, 0, 0), (1, -1, 0, ()), (1, -2, -1, ()),
            (1, 0, -1, (("a", 2),)), (1, "0", 0, ()), (1, 1, 0, (("a", True),)), (1, 1, 0, [("a", 1)]),
            (1, 1, 0, (["a", 1],)), (1, 1, 0, ("a", 1)), (1, 1, 0, (("A", 1),)), (1, 0, 0, (("a", 0),)),
            (2, 2, 0, (("b", 1), ("a", 1))), (2, 2, 0, (("a", 1), ("a", 1))), (1, 1, 0, {"a": 1}), (1, 1, 0, ()),
            (1, 0, 0, (("a", 1),)), (2, 4, 1, (("a", 2),)), (2, 6, 2, (("a", 1),)), (1, 3, 1, ()),
        ]
        for thing in [*wrong, *odd_values()]:
            self.assertIs(is_sketch(thing), False, repr(thing)[:60])

    def test_exactly_what_trees_lead_to(self):
        # As many names as a pour can take from, so that each sketch of these names has a tree of these names.
        for room, names, most in ((1, "ab", 8), (1, "abc", 6), (2, "abcd", 6), (3, "abcdef", 4)):
            for many, level in enumerate(led_to(room, names, most)):
                self.assertEqual({sketch for sketch, _ in level}, set(all_sketches(room, many, names)))

    def test_nothing_else_of_this_form(self):
        for many, level in enumerate(led_to(2, "abcd", 5)):
            told = {sketch for sketch, _ in level}
            for kept in all_counts("abcd", 3, 6):
                for off in range(4):
                    self.assertEqual(is_sketch((2, many, off, kept)), (2, many, off, kept) in told)


class TestBare(unittest.TestCase):
    def test_rooms(self):
        for room in (1, 2, 63, 64):
            self.assertEqual(bare(room), (room, 0, 0, ()))

    def test_no_rooms(self):
        for room in [0, 65, -1, 10 ** 29, True, False, None, "1", (), (1,), [1], {}]:
            self.assertRaises(NoRoom, bare, room)
            self.assertRaises(NoRoom, sketch_of, room, (put(),))
            self.assertRaises(NoRoom, sketch_of, room, None)


class TestFed(unittest.TestCase):
    def test_a_kept_name(self):
        self.assertEqual(fed((2, 5, 1, (("a", 1), ("b", 1))), "b"), (2, 6, 1, (("a", 1), ("b", 2))))
        self.assertEqual(fed((1, 10 ** 10, 0, (("a", 10 ** 10),)), "a"), (1, 10 ** 10 + 1, 0, (("a", 10 ** 10 + 1),)))

    def test_a_new_name_with_room_left(self):
        self.assertEqual(fed(bare(1), "zz"), (1, 1, 0, (("zz", 1),)))
        self.assertEqual(fed((2, 6, 1, (("b", 3),)), "a"), (2, 7, 1, (("a", 1), ("b", 3))))
        self.assertEqual(fed((2, 6, 1, (("b", 3),)), "ba"), (2, 7, 1, (("b", 3), ("ba", 1))))

    def test_a_new_name_without(self):
        self.assertEqual(fed((1, 1, 0, (("a", 1),)), "b"), (1, 2, 1, ()))
        self.assertEqual(fed((2, 4, 0, (("a", 3), ("b", 1))), "c"), (2, 5, 1, (("a", 2),)))
        self.assertEqual(fed((2, 8, 1, (("a", 3), ("b", 2))), "c"), (2, 9, 2, (("a", 2), ("b", 1))))
        self.assertEqual(fed((3, 3, 0, (("a", 1), ("b", 1), ("c", 1))), "d"), (3, 4, 1, ()))

    def test_what_is_fed_is_a_sketch(self):
        for sketch in SKETCHES:
            for name in ("a", "b", "c", "z", "zzzzzzzz"):
                told = fed(sketch, name)
                self.assertIs(is_sketch(told), True)
                self.assertEqual(told[1], sketch[1] + 1)

    def test_errors(self):
        for sketch in [(0, 0, 0, ()), (65, 0, 0, ()), [1, 0, 0, ()], (1, 1, 0, ()), *odd_values()]:
            self.assertRaises(NoSketch, fed, sketch, "a")
            self.assertRaises(NoSketch, fed, sketch, None)
            self.assertRaises(NoSketch, fed_many, sketch, "", -1)
        for name in NO_NAMES:
            self.assertRaises(NoName, fed, bare(1), name)
            self.assertRaises(NoName, fed_many, bare(1), name, 1)
            self.assertRaises(NoName, fed_many, bare(1), name, None)
        for times in NO_NUMBERS:
            self.assertRaises(NoNumber, fed_many, bare(1), "a", times)


class TestFedMany(unittest.TestCase):
    def test_as_so_many_times_fed(self):
        for sketch in SKETCHES:
            for name in ("a", "b", "c", "z"):
                told = sketch
                for times in range(25):
                    self.assertEqual(fed_many(sketch, name, times), told)
                    told = fed(told, name)

    def test_great_numbers(self):
        big = 99999999999
        one = fed_many(bare(2), "a", big)
        self.assertEqual(one, (2, big, 0, (("a", big),)))
        two = fed_many(one, "b", big - 5)
        self.assertEqual(two, (2, 2 * big - 5, 0, (("a", big), ("b", big - 5))))
        self.assertEqual(fed_many(two, "c", big - 6), (2, 3 * big - 11, big - 6, (("a", 6), ("b", 1))))
        self.assertEqual(fed_many(two, "c", big - 5), (2, 3 * big - 10, big - 5, (("a", 5),)))
        self.assertEqual(fed_many(two, "c", big), (2, 3 * big - 5, big - 5, (("a", 5), ("c", 5))))
        self.assertEqual(fed_many(bare(1), "a", 10 ** 30 - 1), (1, 10 ** 30 - 1, 0, (("a", 10 ** 30 - 1),)))

    def test_what_was_returned_may_be_passed_on(self):
        sketch = bare(1)
        for name in ("a", "b", "a", "a", "c"):
            sketch = fed_many(sketch, name, 10 ** 30 - 1)
            self.assertIs(is_sketch(sketch), True)
        self.assertEqual(sketch, (1, 5 * (10 ** 30 - 1), 2 * (10 ** 30 - 1), (("a", 10 ** 30 - 1),)))
        self.assertEqual(poured(sketch, sketch)[3], (("a", 2 * (10 ** 30 - 1)),))

    def test_none(self):
        for sketch in SKETCHES:
            self.assertEqual(fed_many(sketch, "z", 0), sketch)


class TestPoured(unittest.TestCase):
    def test_all_can_be_kept(self):
        one, other = (3, 9, 1, (("a", 3), ("b", 2))), (3, 6, 1, (("b", 1), ("c", 1)))
        self.assertEqual(poured(one, other), (3, 15, 2, (("a", 3), ("b", 3), ("c", 1))))
        self.assertEqual(poured(other, one), (3, 15, 2, (("a", 3), ("b", 3), ("c", 1))))
        self.assertEqual(poured(one, bare(3)), one)
        self.assertEqual(poured(bare(3), one), one)

    def test_one_too_many(self):
        one, other = (2, 9, 0, (("a", 5), ("b", 4))), (2, 5, 0, (("b", 2), ("c", 3)))
        self.assertEqual(poured(one, other), (2, 14, 3, (("a", 2), ("b", 3))))
        self.assertEqual(poured((1, 5, 0, (("a", 5),)), (1, 3, 0, (("b", 3),))), (1, 8, 3, (("a", 2),)))

    def test_twice_room(self):
        one, other = (2, 17, 0, (("a", 9), ("b", 8))), (2, 11, 1, (("c", 5), ("d", 3)))
        self.assertEqual(poured(one, other), (2, 28, 6, (("a", 4), ("b", 3))))
        one, other = (2, 4, 0, (("a", 3), ("c", 1))), (2, 6, 0, (("b", 4), ("d", 2)))
        self.assertEqual(poured(one, other), (2, 10, 2, (("a", 1), ("b", 2))))

    def test_alike_at_the_cut(self):
        one, other = (2, 9, 0, (("a", 5), ("b", 4))), (2, 8, 0, (("c", 4), ("d", 4)))
        self.assertEqual(poured(one, other), (2, 17, 4, (("a", 1),)))
        one, other = (2, 8, 0, (("a", 4), ("b", 4))), (2, 8, 0, (("c", 4), ("d", 4)))
        self.assertEqual(poured(one, other), (2, 16, 4, ()))
        one, other = (2, 9, 0, (("a", 5), ("b", 4))), (2, 5, 0, (("c", 4), ("d", 1)))
        self.assertEqual(poured(one, other), (2, 14, 4, (("a", 1),)))

    def test_what_is_poured_is_a_sketch(self):
        for one, other in itertools.product(SKETCHES, repeat=2):
            if one[0] == other[0]:
                told = poured(one, other)
                self.assertIs(is_sketch(told), True)
                self.assertEqual(told, poured(other, one))
                self.assertEqual(told[1], one[1] + other[1])
                self.assertGreaterEqual(lost(told), lost(one) + lost(other))

    def test_errors(self):
        for thing in [(0, 0, 0, ()), [1, 0, 0, ()], (1, 1, 0, ()), *odd_values()]:
            self.assertRaises(NoSketch, poured, thing, bare(1))
            self.assertRaises(NoSketch, poured, bare(1), thing)
            self.assertRaises(NoSketch, poured, thing, thing)
        self.assertRaises(OtherRoom, poured, bare(1), bare(2))
        self.assertRaises(OtherRoom, poured, (3, 6, 1, (("a", 1), ("b", 1))), bare(64))


class TestSketchOf(unittest.TestCase):
    def test_one_stream(self):
        self.assertEqual(sketch_of(2, (put(),)), bare(2))
        self.assertEqual(sketch_of(2, (put("a", "b", "a", "c", "c"),)), (2, 5, 1, (("a", 1), ("c", 1))))
        for names in itertools.product("abcd", repeat=5):
            for room in (1, 2, 3, 4):
                self.assertEqual(sketch_of(room, (put(*names),)), feeding(room, names))

    def test_empty_streams(self):
        self.assertEqual(sketch_of(3, (put(), put(), POUR)), bare(3))
        self.assertEqual(sketch_of(1, (put(), put("a", "b", "b"), POUR)), (1, 3, 1, (("b", 1),)))
        self.assertEqual(sketch_of(1, (put("a", "b", "b"), put(), POUR)), (1, 3, 1, (("b", 1),)))

    def test_orders(self):
        one, two, three = put("a", "a", "b"), put("c"), put("d", "c", "e")
        for room in (1, 2, 3, 5):
            parts = [feeding(room, step[1]) for step in (one, two, three)]
            first = poured(poured(parts[0], parts[1]), parts[2])
            self.assertEqual(sketch_of(room, (one, two, POUR, three, POUR)), first)
            last = poured(parts[0], poured(parts[1], parts[2]))
            self.assertEqual(sketch_of(room, (one, two, three, POUR, POUR)), last)
        told = [sketch_of(1, (put("a", "a"), put("b"), put("c"), POUR, POUR))]
        told += [sketch_of(1, (put("a", "a"), put("b"), POUR, put("c"), POUR))]
        self.assertEqual(told, [(1, 4, 1, (("a", 2),)), (1, 4, 2, ())])

    def test_long_trees(self):
        tree = (put(),) + (put("a", "b", "c"), POUR) * 2499
        self.assertEqual(sketch_of(2, tree), (2, 3 * 2499, 2499, ()))
        self.assertEqual(sketch_of(3, tree), (3, 3 * 2499, 0, (("a", 2499), ("b", 2499), ("c", 2499))))
        told = sketch_of(64, (put(*[a + b for a in "abcdefghij" for b in "abcdefghijklm"] * 384),))
        self.assertIs(is_sketch(told), True)
        self.assertEqual(told[1], 130 * 384)

    def test_it_sees_all_items(self):
        tree = (put("b", "a"), put("a"), put(), POUR, POUR)
        self.assertEqual(sketch_of(1, tree)[1], sum(count for _, count in counts_of(tree)))

    def test_errors(self):
        for tree in [(), (put("a"), put("b")), (POUR,), [put("a")], (put("A"),), None, 1, "a", {}]:
            self.assertRaises(NoTree, sketch_of, 1, tree)


if __name__ == "__main__":
    unittest.main()
