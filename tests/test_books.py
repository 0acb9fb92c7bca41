"""The first part of point 16: books."""

import itertools
import random
import unittest

from knownends.books import is_book, joined_books, whole
from knownends.errors import NoBook, NoRoom, OtherRoom
from knownends.sketches import bare, fed, poured, sketch_of
from knownends.spaces import bare_space
from tests.helper import odd_values


def triple(source, room, names):
    """The triple of a source that has noted these names."""
    sketch = sketch_of(room, (("stream", tuple(names)),))
    return (source, len(names), sketch)


def drawn(rng, room):
    """A book of some sources, each with the first items of a stream of its own."""
    sources = sorted(rng.sample(range(1, 10), rng.randint(0, 9)))
    return tuple(triple(source, room, ("abcdcba" * source)[source:source + rng.randint(0, 9)]) for source in sources)


ONE = triple(1, 2, "aabc")
TWO = triple(2, 2, "ddd")


class TestIsBook(unittest.TestCase):
    def test_books(self):
        nine = tuple(triple(source, 3, "abcde"[:source]) for source in range(1, 10))
        far = (triple(1, 1, ""), triple(9, 1, "a"))
        for thing in ((), (ONE,), (TWO,), (ONE, TWO), nine, (triple(9, 64, ""),), far):
            self.assertIs(is_book(thing), True)

    def test_sources(self):
        for source in (1, 2, 8, 9):
            self.assertIs(is_book(((source, 4, ONE[2]),)), True)
        for source in (0, 10, -1, True, False, None, "1", (1,), [1], 10 ** 29):
            self.assertIs(is_book(((source, 4, ONE[2]),)), False)
            self.assertIs(is_book((ONE, (source, 4, ONE[2]))), False)
        for order in itertools.permutations((1, 2, 5)):
            book = tuple(triple(source, 2, "ab") for source in order)
            self.assertIs(is_book(book), order == (1, 2, 5))
        self.assertIs(is_book((ONE, ONE)), False)
        self.assertIs(is_book((ONE, triple(1, 2, "b"))), False)

    def test_numbers(self):
        for number in range(-1, 7):
            self.assertIs(is_book(((1, number, ONE[2]),)), number == 4)
        for sketch, numbers in ((fed(bare(2), "a"), (True, "1", None, (1,), [1])), (bare(2), (False, None, ""))):
            for number in numbers:
                self.assertIs(is_book(((1, number, sketch),)), False)

    def test_rooms(self):
        self.assertIs(is_book((triple(1, 2, "a"), triple(2, 3, "a"))), False)
        self.assertIs(is_book((triple(1, 2, "a"), triple(2, 2, "a"), triple(3, 1, ""))), False)
        self.assertIs(is_book((triple(1, 3, "a"), triple(2, 3, "a"))), True)

    def test_other_things(self):
        wrong = [
            [ONE, TWO], [ONE], ONE, (list(ONE),), (ONE[:2],), (ONE + (1,),), (None,), (ONE, None),
            ((1, 4, list(ONE[2])),),
            ((1, 0, bare_space(2)),), ((1, 3, (2, 3, 0, ())),), ((1, 0, (0, 0, 0, ())),), ({},), {1: ONE}, {}, ((),),
        ]
        for thing in wrong + [value for value in odd_values() if value != ()]:
            self.assertIs(is_book(thing), False, repr(thing)[:60])


class TestJoined(unittest.TestCase):
    def test_listed(self):
        more = triple(1, 2, "aabca")
        self.assertEqual(joined_books((), ()), ())
        self.assertEqual(joined_books((ONE,), ()), (ONE,))
        self.assertEqual(joined_books((), (ONE, TWO)), (ONE, TWO))
        self.assertEqual(joined_books((TWO,), (ONE,)), (ONE, TWO))
        self.assertEqual(joined_books((ONE,), (more, TWO)), (more, TWO))
        self.assertEqual(joined_books((more,), (ONE, TWO)), (more, TWO))

    def test_like_numbers(self):
        other = triple(1, 2, "zzzz")
        self.assertEqual(joined_books((ONE,), (other, TWO)), (ONE, TWO))
        self.assertEqual(joined_books((other, TWO), (ONE,)), (other, TWO))
        self.assertEqual(joined_books((triple(3, 2, ""),), (triple(3, 2, ""),)), (triple(3, 2, ""),))

    def test_drawn(self):
        rng = random.Random(29)
        for _ in range(200):
            one, other, third = drawn(rng, 2), drawn(rng, 2), drawn(rng, 2)
            told = joined_books(one, other)
            self.assertIs(is_book(told), True)
            tables = [{row[0]: row for row in book} for book in (one, other)]
            self.assertEqual([row[0] for row in told], sorted({*tables[0], *tables[1]}))
            for row in told:
                rows = [table[row[0]] for table in tables if row[0] in table]
                self.assertEqual(row, max(rows, key=lambda row: row[1]))
            # Each source has a stream of its own here, so that no order matters.
            self.assertEqual(joined_books(other, one), told)
            self.assertEqual(joined_books(one, one), one)
            self.assertEqual(joined_books(told, other), told)
            self.assertEqual(joined_books(told, third), joined_books(one, joined_books(other, third)))

    def test_errors(self):
        for value in [value for value in odd_values() if value != ()] + [[ONE], (ONE, ONE), ONE]:
            self.assertRaises(NoBook, joined_books, value, (ONE,))
            self.assertRaises(NoBook, joined_books, (ONE,), value)
            self.assertRaises(NoBook, joined_books, (triple(1, 3, ""),), value)
            self.assertRaises(NoBook, joined_books, (), value)
        self.assertRaises(OtherRoom, joined_books, (ONE,), (triple(2, 3, "a"),))
        self.assertRaises(OtherRoom, joined_books, (triple(1, 1, "a"),), (ONE,))
        self.assertEqual(joined_books((), (triple(1, 1, "a"),)), (triple(1, 1, "a"),))


class TestWhole(unittest.TestCase):
    def test_listed(self):
        self.assertEqual(whole(2, ()), bare(2))
        self.assertEqual(whole(64, ()), bare(64))
        self.assertEqual(whole(2, (ONE,)), ONE[2])
        self.assertEqual(whole(2, (ONE, TWO)), poured(ONE[2], TWO[2]))

    def test_drawn(self):
        rng = random.Random(30)
        for _ in range(100):
            room = rng.randint(1, 3)
            book = drawn(rng, room)
            sketch = bare(room)
            for row in book:
                sketch = poured(sketch, row[2])
            self.assertEqual(whole(room, book), sketch)
            self.assertEqual(whole(room, book)[1], sum(row[1] for row in book))

    def test_errors(self):
        for room in (0, 65, -1, True, None, "2", (2,), [2], {}):
            self.assertRaises(NoRoom, whole, room, (ONE,))
            self.assertRaises(NoRoom, whole, room, None)
        for value in [value for value in odd_values() if value != ()] + [[ONE], (ONE, ONE), ONE]:
            self.assertRaises(NoBook, whole, 2, value)
            self.assertRaises(NoBook, whole, 3, value)
        for room in (1, 3, 64):
            self.assertRaises(OtherRoom, whole, room, (ONE, TWO))


if __name__ == "__main__":
    unittest.main()
