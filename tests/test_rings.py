"""Point 14: rings of blocks, and the ends of several sketches together."""

import random
import unittest

from knownends.errors import NoName, NoNumber, NoRoom, NoSketches
from knownends.questions import end_truths, ends
from knownends.rings import Ring, sum_ends
from knownends.sketches import bare, fed_many, sketch_of
from knownends.spaces import bare_space
from knownends.truths import paper
from tests.helper import odd_values
from tests.listing import SKETCHES, truths

NO_NAMES = ["", "A", "abcdefghi", "a b", "a\n", 1, None, True, (), ("a",), ["a"], {"a": 1}]


def sketched(room, names):
    """The sketch of one stream."""
    return sketch_of(room, (("stream", tuple(names)),))


def told_by(ring):
    """All that a ring tells."""
    return ring.many(), ring.now(), [ring.last(j) for j in range(ring.blocks + 1)]


def drawn(rng, many):
    """So many names."""
    return [rng.choice("aaabbcdefg") for _ in range(many)]


class TestRing(unittest.TestCase):
    def test_of_no_items(self):
        ring = Ring(3, 4, 5)
        self.assertEqual((ring.many(), ring.now()), (0, bare(3)))
        for j in range(6):
            self.assertEqual(ring.last(j), ())

    def test_against_the_stream(self):
        rng = random.Random(14)
        for room, size, blocks in ((1, 1, 1), (2, 1, 3), (2, 5, 1), (3, 4, 3), (64, 7, 2), (2, 30, 100)):
            stream = drawn(rng, 43)
            ring = Ring(room, size, blocks)
            for at, name in enumerate(stream):
                self.assertIs(ring.feed(name), None)
                fed = stream[:at + 1]
                whole = len(fed) // size
                rows = [sketched(room, fed[k * size:(k + 1) * size]) for k in range(whole)][-blocks:]
                self.assertEqual(ring.many(), len(fed))
                self.assertEqual(ring.now(), sketched(room, fed[whole * size:]))
                for j in range(blocks + 1):
                    self.assertEqual(ring.last(j), tuple(rows[len(rows) - j:] if j <= len(rows) else rows))

    def test_at_the_edge_of_a_block(self):
        ring = Ring(2, 3, 2)
        for name in "abab":
            ring.feed(name)
        self.assertEqual((ring.last(2), ring.now()), ((sketched(2, "aba"),), sketched(2, "b")))
        ring.feed("c")
        ring.feed("c")
        self.assertEqual((ring.last(2), ring.now()), ((sketched(2, "aba"), sketched(2, "bcc")), bare(2)))
        for name in "ddd":
            ring.feed(name)
        self.assertEqual((ring.last(1), ring.last(0)), ((sketched(2, "ddd"),), ()))
        self.assertEqual(ring.last(2), (sketched(2, "bcc"), sketched(2, "ddd")))

    def test_bounds(self):
        for size in (1, 2, 10 ** 6):
            for blocks in (1, 2, 100):
                ring = Ring(64, size, blocks)
                self.assertEqual(ring.last(blocks), ())
                self.assertRaises(NoNumber, ring.last, blocks + 1)
        for wrong in (0, -1, 10 ** 6 + 1, True, False, None, "1", (1,), [1], {}):
            self.assertRaises(NoNumber, Ring, 1, wrong, 1)
        for wrong in (0, -1, 101, True, False, None, "1", (1,), [1], {}):
            self.assertRaises(NoNumber, Ring, 1, 1, wrong)
        for wrong in (0, -1, 65, True, False, None, "1", (1,), [1], {}):
            self.assertRaises(NoRoom, Ring, wrong, 1, 1)
            self.assertRaises(NoRoom, Ring, wrong, 0, 0)
        self.assertRaises(NoNumber, Ring, 1, 0, None)

    def test_a_block_of_a_million(self):
        ring = Ring(2, 10 ** 6, 1)
        for at in range(10 ** 6 - 1):
            ring.feed("abc"[at % 3])
        self.assertEqual(ring.last(1), ())
        self.assertEqual(ring.now(), (2, 999999, 333333, ()))
        ring.feed("d")
        self.assertEqual((ring.last(1), ring.now()), (((2, 10 ** 6, 333333, (("d", 1),)),), bare(2)))

    def test_a_hundred_blocks(self):
        ring = Ring(1, 1, 100)
        names = ["a" * (at % 8 + 1) for at in range(130)]
        for name in names:
            ring.feed(name)
        self.assertEqual(ring.last(100), tuple((1, 1, 0, ((name, 1),)) for name in names[30:]))
        self.assertEqual(ring.last(99), ring.last(100)[1:])

    def test_what_is_wrong_changes_nothing(self):
        ring = Ring(2, 3, 2)
        for name in "abcde":
            ring.feed(name)
        before = told_by(ring)
        for name in [*NO_NAMES, *[value for value in odd_values() if value not in ("a", "pour")]]:
            self.assertRaises(NoName, ring.feed, name)
        for j in [3, -1, 10 ** 29, True, False, None, "1", "", (1,), [1], {}]:
            self.assertRaises(NoNumber, ring.last, j)
        self.assertEqual(told_by(ring), before)

    def test_copies_go_on_apart(self):
        rng = random.Random(4)
        for many in range(13):
            ring = Ring(2, 4, 2)
            stream, more, other = drawn(rng, many), drawn(rng, 9), drawn(rng, 7)
            for name in stream:
                ring.feed(name)
            twin = ring.copy()
            self.assertEqual(told_by(twin), told_by(ring))
            for name in more:
                ring.feed(name)
            for name in other:
                twin.feed(name)
            for fed, names in ((ring, stream + more), (twin, stream + other)):
                straight = Ring(2, 4, 2)
                for name in names:
                    straight.feed(name)
                self.assertEqual(told_by(fed), told_by(straight))


class TestSumEnds(unittest.TestCase):
    def test_of_few(self):
        self.assertEqual(sum_ends((), "a"), (0, 0))
        for sketch in SKETCHES:
            for name in "abz":
                self.assertEqual(sum_ends((sketch,), name), ends(sketch, ("count", name)))
                low, high = ends(sketch, ("count", name))
                self.assertEqual(sum_ends((sketch, sketch), name), (2 * low, 2 * high))

    def test_unlike_rooms(self):
        # (2, 5, 1, a: 1) has lost 4, of which a can be one; (1, 9, 2, a: 5) has lost 4, of which a can be two.
        self.assertEqual(sum_ends(((2, 5, 1, (("a", 1),)), (1, 9, 2, (("a", 5),)), bare(64)), "a"), (6, 9))
        self.assertEqual(sum_ends(((2, 5, 1, (("a", 1),)), (1, 9, 2, (("a", 5),)), bare(64)), "b"), (0, 3))

    def test_against_all_truths(self):
        for name in "abd":
            for one in SKETCHES[:8]:
                for other in SKETCHES[5:12]:
                    firsts = [dict(truth).get(name, 0) for truth in truths(one, "abdxy")]
                    seconds = [dict(truth).get(name, 0) for truth in truths(other, "abdxy")]
                    sums = [first + second for first in firsts for second in seconds]
                    self.assertEqual(sum_ends((one, other), name), (min(sums), max(sums)))

    def test_both_ends_are_met_by_trees(self):
        rng = random.Random(5)
        for _ in range(30):
            sketches = tuple(rng.choice(SKETCHES) for _ in range(rng.randint(1, 4)))
            for name in "abq":
                for side, end in enumerate(sum_ends(sketches, name)):
                    total = 0
                    for sketch in sketches:
                        tree = paper(sketch, end_truths(sketch, ("count", name))[side])
                        self.assertEqual(sketch_of(sketch[0], tree), sketch)
                        total += sum(step[1].count(name) for step in tree if step[0] == "stream")
                    self.assertEqual(total, end)

    def test_of_a_ring(self):
        rng = random.Random(6)
        ring = Ring(2, 6, 5)
        stream = drawn(rng, 40)
        for name in stream:
            ring.feed(name)
        for name in "abcdefgh":
            low, high = sum_ends(ring.last(5) + (ring.now(),), name)
            self.assertLessEqual(low, stream[6:].count(name))
            self.assertGreaterEqual(high, stream[6:].count(name))

    def test_how_many(self):
        for many in (99, 100):
            self.assertEqual(sum_ends((fed_many(bare(1), "a", 3),) * many, "a"), (3 * many, 3 * many))
        self.assertRaises(NoSketches, sum_ends, (bare(1),) * 101, "a")

    def test_errors(self):
        right = (bare(1), bare(2))
        wrong = [list(right), right[0], right + (None,), (bare_space(2),), ([1, 0, 0, ()],), (right,), (bare(1), 1)]
        wrong += [value for value in odd_values() if value != ()]
        for value in wrong:
            self.assertRaises(NoSketches, sum_ends, value, "a")
            self.assertRaises(NoSketches, sum_ends, value, "")
        for name in NO_NAMES:
            self.assertRaises(NoName, sum_ends, right, name)
            self.assertRaises(NoName, sum_ends, (), name)


if __name__ == "__main__":
    unittest.main()
