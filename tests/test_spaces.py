"""Point 13: space sketches, and the sketches that they lead to."""

import random
import unittest

from knownends.errors import NoName, NoRoom, NoSpace
from knownends.sketches import bare, fed, is_sketch, sketch_of
from knownends.spaces import bare_space, fed_space, from_space, is_space
from tests.helper import odd_values

NO_NAMES = ["", "A", "abcdefghi", "a b", "a\n", 1, None, True, (), ("a",), ["a"], {"a": 1}]


def letters(many):
    """So many unlike names, ascending."""
    return [first + second for first in "abcdefghi" for second in "abcdefghij"][:many]


def fed_all(room, names):
    """The space sketch of a stream."""
    space = bare_space(room)
    for name in names:
        space = fed_space(space, name)
    return space


def drawn(rng):
    """A space sketch of any kind, with many like counts."""
    room = rng.randint(2, 6)
    names = rng.sample("abcdefgh", rng.choice([room, room, rng.randint(0, room)]))
    kept = tuple((name, rng.randint(1, 4)) for name in sorted(names))
    return (room, sum(count for _, count in kept), kept)


class TestIsSpace(unittest.TestCase):
    def test_spaces(self):
        for thing in ((2, 0, ()), (65, 0, ()), (2, 1, (("a", 1),)), (2, 7, (("a", 3), ("b", 4)))):
            self.assertIs(is_space(thing), True)
        self.assertIs(is_space((3, 3 * 10 ** 29, (("a", 10 ** 29), ("b", 10 ** 29), ("c", 10 ** 29)))), True)

    def test_rooms(self):
        for room in (0, 1, 66, -2, True, False, None, "2", (), (2,), [2], 10 ** 20):
            self.assertIs(is_space((room, 0, ())), False)
        for room in (2, 3, 64, 65):
            self.assertIs(is_space((room, 0, ())), True)

    def test_many_is_the_sum(self):
        for kept, many in (((), 0), ((("a", 1),), 1), ((("a", 2), ("c", 5)), 7)):
            for other in range(-1, 10):
                self.assertIs(is_space((2, other, kept)), other == many)
        for many in (True, None, "1", (1,), [1]):
            self.assertIs(is_space((2, many, (("a", 1),))), False)
        self.assertIs(is_space((2, False, ())), False)

    def test_how_many_are_kept(self):
        for room in (2, 3, 64, 65):
            for many in (room - 1, room, room + 1):
                kept = tuple((name, 1) for name in letters(many))
                self.assertIs(is_space((room, many, kept)), many <= room)

    def test_other_things(self):
        wrong = [
            [2, 0, ()], (2, 0), (2, 0, (), ()), (2, 0, 0, ()), (2, 0, []), (2, 0, None), (2, 1, [("a", 1)]),
            (2, 1, (["a", 1],)), (2, 1, ("a", 1)), (2, 1, (("a", True),)), (2, 1, (("A", 1),)), (2, 0, (("a", 0),)),
            (2, 0, (("a", 1), ("b", -1))), (2, 2, (("b", 1), ("a", 1))), (2, 2, (("a", 1), ("a", 1))), (2, 1, {"a": 1}),
            (1, 0, 0, ()), bare(2),
        ]
        for thing in [*wrong, *odd_values()]:
            self.assertIs(is_space(thing), False, repr(thing)[:60])


class TestFeeding(unittest.TestCase):
    def test_bare(self):
        for room in range(2, 66):
            self.assertEqual(bare_space(room), (room, 0, ()))
        for room in (0, 1, 66, -1, 10 ** 29, True, False, None, "2", (2,), [2], {}):
            self.assertRaises(NoRoom, bare_space, room)

    def test_a_kept_name(self):
        self.assertEqual(fed_space((2, 1, (("a", 1),)), "a"), (2, 2, (("a", 2),)))
        self.assertEqual(fed_space((2, 5, (("a", 1), ("b", 4))), "a"), (2, 6, (("a", 2), ("b", 4))))
        self.assertEqual(fed_space((2, 5, (("a", 1), ("b", 4))), "b"), (2, 6, (("a", 1), ("b", 5))))

    def test_a_new_name_with_room_left(self):
        self.assertEqual(fed_space(bare_space(2), "b"), (2, 1, (("b", 1),)))
        self.assertEqual(fed_space((2, 4, (("b", 4),)), "a"), (2, 5, (("a", 1), ("b", 4))))
        self.assertEqual(fed_space((3, 9, (("a", 4), ("c", 5))), "b"), (3, 10, (("a", 4), ("b", 1), ("c", 5))))

    def test_a_new_name_without_room(self):
        self.assertEqual(fed_space((2, 5, (("a", 2), ("b", 3))), "c"), (2, 6, (("b", 3), ("c", 3))))
        self.assertEqual(fed_space((2, 5, (("b", 3), ("c", 2))), "a"), (2, 6, (("a", 3), ("b", 3))))
        for new in ("a", "c", "e", "z"):
            told = fed_space((3, 12, (("b", 4), ("d", 4), ("f", 4))), new)
            self.assertEqual(told, (3, 13, tuple(sorted((("b", 4), ("d", 4), (new, 5))))))
        told = fed_space((3, 12, (("b", 2), ("d", 2), ("f", 8))), "c")
        self.assertEqual(told, (3, 13, (("b", 2), ("c", 3), ("f", 8))))

    def test_the_greatest_room(self):
        space = fed_all(65, letters(65))
        self.assertEqual(space, (65, 65, tuple((name, 1) for name in letters(65))))
        told = fed_space(space, "zz")
        self.assertEqual(told, (65, 66, tuple((name, 1) for name in letters(64)) + (("zz", 2),)))

    def test_what_is_kept_against_the_true_counts(self):
        rng = random.Random(13)
        for room in (2, 3, 5):
            for names in ("abcdefgh", "aaaaabbbcdefghijklmnop", "ab", "abc"):
                stream = [rng.choice(names) for _ in range(120)]
                space = bare_space(room)
                for at, name in enumerate(stream):
                    space = fed_space(space, name)
                    self.assertIs(is_space(space), True)
                    self.assertEqual(space[1], at + 1)
                    kept = dict(space[2])
                    self.assertIn(name, kept)
                    least = min(kept.values()) if len(kept) == room else 0
                    for other in set(names):
                        true = stream[:at + 1].count(other)
                        if other in kept:
                            self.assertLessEqual(true, kept[other])
                            self.assertGreaterEqual(true, kept[other] - least)
                        else:
                            self.assertLessEqual(true, least)

    def test_errors(self):
        for value in [*odd_values(), bare(2), (2, 1, ()), (66, 0, ())]:
            self.assertRaises(NoSpace, fed_space, value, "a")
            self.assertRaises(NoSpace, fed_space, value, "")
            self.assertRaises(NoSpace, from_space, value)
        for name in NO_NAMES:
            self.assertRaises(NoName, fed_space, bare_space(2), name)
            self.assertRaises(NoName, fed_space, (2, 2, (("a", 1), ("b", 1))), name)


class TestFromSpace(unittest.TestCase):
    def test_full(self):
        self.assertEqual(from_space((2, 5, (("a", 2), ("b", 3)))), (1, 5, 2, (("b", 1),)))
        self.assertEqual(from_space((2, 6, (("a", 3), ("b", 3)))), (1, 6, 3, ()))
        self.assertEqual(from_space((3, 9, (("a", 2), ("b", 2), ("c", 5)))), (2, 9, 2, (("c", 3),)))
        kept = tuple((name, 7) for name in letters(65))
        self.assertEqual(from_space((65, 65 * 7, kept)), (64, 65 * 7, 7, ()))

    def test_not_full(self):
        self.assertEqual(from_space(bare_space(2)), bare(1))
        self.assertEqual(from_space((2, 5, (("a", 5),))), (1, 5, 0, (("a", 5),)))
        self.assertEqual(from_space((4, 9, (("a", 2), ("b", 2), ("c", 5)))), (3, 9, 0, (("a", 2), ("b", 2), ("c", 5))))

    def test_it_goes_together_with_feeding(self):
        rng = random.Random(2)
        for _ in range(1500):
            space = drawn(rng)
            sketch = from_space(space)
            self.assertIs(is_sketch(sketch), True)
            for name in "abcdefghi":
                self.assertEqual(from_space(fed_space(space, name)), fed(sketch, name))

    def test_of_streams(self):
        rng = random.Random(3)
        for room in (1, 2, 3, 7, 64):
            for many in (0, 1, 5, 40, 200):
                stream = tuple(rng.choice(letters(90)[:room + 3]) for _ in range(many))
                self.assertEqual(from_space(fed_all(room + 1, stream)), sketch_of(room, (("stream", stream),)))


if __name__ == "__main__":
    unittest.main()
