"""The first part of point 12: how much room is enough, and what is the worst."""

import unittest

from knownends.errors import NoNumber, NoQuestion, NoRoom
from knownends.questions import ends
from knownends.rooms import most_off, room_for, widest, worst
from knownends.sketches import sketch_of
from knownends.streams import is_name, is_tree
from tests.listing import all_sketches, led_to
from tests.test_questions import FORTY, NO_QUESTIONS

MOST = 10 ** 12
NO_ROOMS = [0, 65, -1, True, False, None, "1", (), (1,), [1], {}, 10 ** 29]
NO_NUMBERS = [-1, MOST + 1, True, False, None, "1", (), (1,), [1], {}, 10 ** 29, -(10 ** 29)]


class TestMostOff(unittest.TestCase):
    def test_all_small_sketches(self):
        for room, names in ((1, "ab"), (2, "abc"), (3, "abcd")):
            for many in range(11 - 2 * room):
                offs = [sketch[2] for sketch in all_sketches(room, many, names)]
                self.assertEqual(most_off(room, many), max(offs))

    def test_what_trees_lead_to(self):
        for room, names, most in ((1, "ab", 8), (2, "abcd", 6), (3, "abcd", 5)):
            for many, level in enumerate(led_to(room, names, most)):
                self.assertEqual(most_off(room, many), max(sketch[2] for sketch, _ in level))

    def test_great_numbers(self):
        for room in (1, 2, 9, 63, 64):
            for many in (0, 1, room, room + 1, 2 * room + 1, 2 * room + 2, MOST - 1, MOST):
                self.assertEqual(most_off(room, many), many // (room + 1))

    def test_errors(self):
        for room in NO_ROOMS:
            self.assertRaises(NoRoom, most_off, room, 5)
            self.assertRaises(NoRoom, most_off, room, -1)
        for many in NO_NUMBERS:
            self.assertRaises(NoNumber, most_off, 1, many)


class TestRoomFor(unittest.TestCase):
    def test_small_numbers(self):
        for many in range(60):
            for most in range(62):
                room = room_for(many, most)
                self.assertGreaterEqual(room, 1)
                self.assertLessEqual(many // (room + 1), most)
                if room > 1:
                    self.assertGreater(many // room, most)

    def test_the_room_there_is_enough_and_the_one_beside_it_is_not(self):
        for many, most in ((640, 9), (649, 9), (64, 0), (65, 1), (MOST, MOST // 60), (MOST - 1, MOST // 2)):
            room = room_for(many, most)
            self.assertLessEqual(room, 64)
            self.assertLessEqual(most_off(room, many), most)
            if room > 1:
                self.assertGreater(most_off(room - 1, many), most)

    def test_edges(self):
        self.assertEqual(room_for(0, 0), 1)
        self.assertEqual(room_for(0, MOST), 1)
        self.assertEqual(room_for(1, 0), 1)
        self.assertEqual(room_for(2, 0), 2)
        self.assertEqual(room_for(7, 7), 1)
        self.assertEqual(room_for(7, 8), 1)
        self.assertEqual(room_for(MOST, 0), MOST)
        self.assertEqual(room_for(MOST, 1), MOST // 2)
        self.assertEqual(room_for(MOST, MOST), 1)
        self.assertEqual(room_for(100, 0), 100)

    def test_errors(self):
        for number in NO_NUMBERS:
            self.assertRaises(NoNumber, room_for, number, 0)
            self.assertRaises(NoNumber, room_for, 0, number)


class TestWorst(unittest.TestCase):
    def check(self, room, many):
        """That this off belongs to the sketch of the stream."""
        stream = worst(room, many)
        self.assertIs(type(stream), tuple)
        self.assertEqual(len(stream), many)
        self.assertTrue(all(is_name(name) for name in stream))
        self.assertIs(is_tree((("stream", stream),)), True)
        self.assertEqual(sketch_of(room, (("stream", stream),))[2], most_off(room, many))
        self.assertEqual(worst(room, many), stream)

    def test_small_ones(self):
        for room in (1, 2, 3, 5, 8):
            for many in range(40):
                self.check(room, many)

    def test_greater_ones(self):
        for room in (1, 25, 26, 63, 64):
            for many in (room, room + 1, 2 * room + 1, 2 * room + 2, 1999, 2000):
                self.check(room, many)

    def test_errors(self):
        for room in NO_ROOMS:
            self.assertRaises(NoRoom, worst, room, 5)
            self.assertRaises(NoRoom, worst, room, 2001)
        for many in [2001, *NO_NUMBERS]:
            self.assertRaises(NoNumber, worst, 1, many)


class TestWidest(unittest.TestCase):
    def test_all_small_sketches(self):
        lots = [(), ("a",), ("a", "b"), ("m", "n"), ("a", "m", "n"), ("a", "b", "c", "m", "n"), tuple("abcmnopq")]
        questions = [("count", "a"), ("count", "m"), ("apart", "a", "b"), ("apart", "b", "m"), ("apart", "m", "n")]
        questions += [("lot", lot) for lot in lots]
        for room, names, most in ((1, "ab", 9), (2, "abc", 9), (3, "ab", 9)):
            found = dict.fromkeys(questions, 0)
            for many in range(most + 1):
                for sketch in all_sketches(room, many, names):
                    for question in questions:
                        low, high = ends(sketch, question)
                        found[question] = max(found[question], high - low)
                for question in questions:
                    self.assertEqual(widest(room, many, question), found[question], (room, many, question))

    def test_lots_that_nothing_else_bounds(self):
        for room in range(1, 9):
            for many in (*range(0, 70), 997):
                for size in range(0, 20):
                    offs = range(many // (room + 1) + 1)
                    most = max(min(many, 2 * room * off, size * off) for off in offs)
                    self.assertEqual(widest(room, many, ("lot", FORTY[:size])), most)

    def test_great_numbers(self):
        for room in (1, 2, 19, 20, 21, 64):
            for many in (0, 1, room, room + 1, MOST - 1, MOST):
                off = many // (room + 1)
                for name in ("a", "count", "zzzzzzzz"):
                    self.assertEqual(widest(room, many, ("count", name)), off)
                    self.assertEqual(widest(room, many, ("apart", "b", name)), 2 * off)
                self.assertEqual(widest(room, many, ("lot", ())), 0)
                self.assertEqual(widest(room, many, ("lot", ("zz",))), off)
                self.assertEqual(widest(room, many, ("lot", FORTY)), min(many, 2 * room * off, 40 * off))

    def test_errors(self):
        for room in NO_ROOMS:
            self.assertRaises(NoRoom, widest, room, -1, None)
        for many in NO_NUMBERS:
            self.assertRaises(NoNumber, widest, 1, many, None)
        for question in [("place", "a"), ("first", 1), ("unlike",), ("squares",), *NO_QUESTIONS]:
            self.assertRaises(NoQuestion, widest, 1, 5, question)


if __name__ == "__main__":
    unittest.main()
