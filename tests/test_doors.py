"""Point 1, and all points together: each door of the program leads a stream to the same sketch."""

import random
import unittest

from knownends.books import whole
from knownends.days import day, relived
from knownends.net import Net
from knownends.questions import ends, end_truths, value
from knownends.rings import Ring, sum_ends
from knownends.sheets import question_text, run_sheet
from knownends.sketches import bare, fed, fed_many, poured, sketch_of
from knownends.spaces import bare_space, fed_space, from_space
from knownends.streams import counts_of
from knownends.truths import is_paper, is_truth, paper

QUESTIONS = [
    ("count", "a"), ("count", "q"), ("lot", ("a", "c", "q")), ("apart", "a", "b"), ("apart", "q", "a"), ("place", "a"),
    ("place", "q"), ("first", 1), ("first", 3), ("unlike",), ("squares",),
]


def by_feeding(room, stream):
    """Item by item."""
    sketch = bare(room)
    for name in stream:
        sketch = fed(sketch, name)
    return sketch


def by_runs(room, stream):
    """So many items of one name at once as stand side by side."""
    sketch, at = bare(room), 0
    while at < len(stream):
        times = 1
        while stream[at:at + times + 1] == stream[at:at + 1] * (times + 1):
            times += 1
        sketch = fed_many(sketch, stream[at], times)
        at += times
    return sketch


def by_space(room, stream):
    """As a space sketch with one room more."""
    space = bare_space(room + 1)
    for name in stream:
        space = fed_space(space, name)
    return from_space(space)


def by_ring(room, stream):
    """As what a ring has behind its last whole block."""
    ring = Ring(room, len(stream) + 1, 1)
    for name in stream:
        ring.feed(name)
    return ring.now()


def by_block(room, stream):
    """As the last whole block of a ring, with others ahead and some items behind."""
    ring = Ring(room, max(len(stream), 1), 2)
    for name in ("z",) * (max(len(stream), 1) * 3) + stream + (("y",) if len(stream) > 1 else ()):
        ring.feed(name)
    return ring.last(1)[0] if stream else ring.now()


def by_net(room, stream):
    """As what a net gathers, with falls on the way."""
    net = Net(room, 2, 2)
    for at, name in enumerate(stream):
        if at % 7 == 3:
            net.event(("break", 2, name, 5))
            net.event(("rise", "source", 2))
        if at % 9 == 4:
            net.event(("compact", "source", 2, None))
        net.event(("item", 2, name))
        if at % 5 == 0:
            net.event(("send", 2, 1))
    net.event(("fall", "collector", 1))
    net.gather(20000)
    again, _ = relived(day(net))
    sketches = [whole(room, net.book(1)), whole(room, net.book(2)), whole(room, again.book(1)), net.source(2)[1]]
    return sketches[0] if sketches == sketches[:1] * 4 else sketches


DOORS = [by_feeding, by_runs, by_space, by_ring, by_block, by_net]


def drawn(rng):
    """A room and a stream."""
    names = rng.choice(["ab", "abcd", "aaaabcdefg", "abcdefghijklmnop"])
    return rng.randint(1, 5), tuple(rng.choice(names) for _ in range(rng.randint(0, 60)))


class TestDoors(unittest.TestCase):
    def test_all_lead_to_one_sketch(self):
        rng = random.Random(37)
        for room, stream in [(1, ()), (64, ()), (1, ("a",)), (64, tuple("abc"))] + [drawn(rng) for _ in range(60)]:
            sketch = sketch_of(room, (("stream", stream),))
            for door in DOORS:
                self.assertEqual(door(room, stream), sketch, door.__name__)
            self.assertEqual(poured(sketch, bare(room)), sketch)
            self.assertEqual(poured(bare(room), sketch), sketch)
            self.assertEqual(sketch_of(room, (("stream", ()), ("stream", stream), ("pour",))), sketch)

    def test_a_sheet(self):
        rng = random.Random(38)
        for _ in range(60):
            room, stream = drawn(rng)
            sketch = sketch_of(room, (("stream", stream),))
            lines = [f"sketch x {room}", f"sketch y {room}"]
            lines += [" ".join(["feed", "x", *stream])] if stream else []
            lines += ["pour z y x"] + [f"ask {rng.choice('xz')} {question_text(question)}" for question in QUESTIONS]
            told = [ends(sketch, question) for question in QUESTIONS]
            self.assertEqual(run_sheet("\n".join(lines)), [f"{low} {high}" for low, high in told])

    def test_the_main_sentence_on_a_net(self):
        rng = random.Random(39)
        for _ in range(15):
            room = rng.randint(1, 3)
            net = Net(room, 3, 2)
            for _ in range(40):
                net.event(("item", rng.randint(1, 3), rng.choice("aaabcdef")))
                net.event(("send", rng.randint(1, 3), rng.randint(1, 2)))
                net.event((rng.choice(["come", "double", "lose"]), rng.randrange(len(net.bag()))))
            for c in (1, 2):
                book = net.book(c)
                noted = tuple(("stream", net.names_of(source)[:number]) for source, number, _ in book)
                tree = (("stream", ()), *[step for put in noted for step in (put, ("pour",))])
                sketch, counts = whole(room, book), counts_of(tree)
                self.assertEqual(sketch_of(room, tree), sketch)
                self.assertIs(is_truth(sketch, counts), True)
                for question in QUESTIONS:
                    low, high = ends(sketch, question)
                    self.assertTrue(low <= value(counts, question) <= high)
                    for end, truth in zip((low, high), end_truths(sketch, question)):
                        self.assertEqual(value(truth, question), end)
                        self.assertIs(is_paper(sketch, truth, paper(sketch, truth)), True)
                for name in "abq":
                    low, high = sum_ends(tuple(row[2] for row in book), name)
                    self.assertTrue(low <= dict(counts).get(name, 0) <= high)


if __name__ == "__main__":
    unittest.main()
