"""Point 16: nets, their events, letters and falls."""

import itertools
import random
import unittest

from knownends.books import is_book, joined_books, whole
from knownends.disks import Disk, kept, noted, opened
from knownends.errors import NoEvent, NoNumber, NoRoom
from knownends.net import Net
from knownends.sketches import bare, fed, sketch_of
from knownends.streams import counts_of
from knownends.truths import is_truth
from tests.helper import odd_values
from tests.nets import SlowNet, drawn_event, keep_length, line_length, run, state_of

NO_NUMBERS = [-1, True, False, "1", "", (), (1,), [1], {}]
NO_NAMES = ["", "A", "abcdefghi", "a b", "a\n", 1, None, True, (), ("a",), ["a"], {"a": 1}]


def sketched(room, names):
    """The sketch of one stream."""
    return sketch_of(room, (("stream", tuple(names)),))


def fed_net(room, *streams, collectors=2):
    """A net whose sources have noted these streams."""
    net = Net(room, len(streams), collectors)
    for s, names in enumerate(streams, start=1):
        for name in names:
            net.event(("item", s, name))
    return net


def done(net, *events):
    """The net, after it has done these events."""
    for event in events:
        net.event(event)
    return net


class NetTest(unittest.TestCase):
    def unchanged(self, net, *events):
        """None of these events is possible, and none changes anything."""
        before, events_before = state_of(net), net.events()
        for event in events:
            with self.subTest(repr(event)[:80]):
                self.assertRaises(NoEvent, net.event, event)
                self.assertEqual((state_of(net), net.events()), (before, events_before))

    def gathered(self, net):
        """Whether all books are alike and tell all."""
        room, sources, collectors = net.beginning()
        book = tuple((s, *net.source(s)) for s in range(1, sources + 1))
        self.assertEqual([net.book(c) for c in range(1, collectors + 1)], [book] * collectors)
        self.assertEqual((net.up(), net.bag()), (((True,) * sources, (True,) * collectors), []))


class TestBeginning(NetTest):
    def test_a_new_net(self):
        for room, sources, collectors in ((1, 1, 1), (64, 9, 9), (2, 1, 9), (3, 9, 1)):
            net = Net(room, sources, collectors)
            self.assertEqual(net.beginning(), (room, sources, collectors))
            self.assertEqual(net.up(), ((True,) * sources, (True,) * collectors))
            self.assertEqual((net.bag(), net.events()), ([], []))
            for s in range(1, sources + 1):
                self.assertEqual((net.source(s), net.names_of(s)), ((0, bare(room)), ()))
            for c in range(1, collectors + 1):
                self.assertEqual(net.book(c), ())

    def test_wrong_numbers(self):
        wrong = [0, 10, 10 ** 29, None, *NO_NUMBERS]
        for room in [0, 65, None, *NO_NUMBERS]:
            for number in (1, 0, None):
                self.assertRaises(NoRoom, Net, room, number, number)
        for number in wrong:
            self.assertRaises(NoNumber, Net, 1, number, 1)
            self.assertRaises(NoNumber, Net, 1, 1, number)
            self.assertRaises(NoNumber, Net, 64, number, number)

    def test_machines_that_are_not_there(self):
        net = Net(2, 2, 3)
        for wrong in [0, 4, 10, None, *NO_NUMBERS]:
            for call in (net.source, net.book, net.names_of):
                self.assertRaises(NoNumber, call, wrong)
        self.assertRaises(NoNumber, net.source, 3)
        self.assertRaises(NoNumber, net.names_of, 3)
        self.assertEqual(net.book(3), ())


class TestEvents(NetTest):
    def test_items(self):
        net = fed_net(2, "abcab", "")
        self.assertEqual(net.source(1), (5, sketched(2, "abcab")))
        self.assertEqual((net.source(2), net.names_of(2)), ((0, bare(2)), ()))
        self.assertEqual(net.names_of(1), tuple("abcab"))
        self.assertEqual(net.events(), [("item", 1, name) for name in "abcab"])
        self.assertIs(net.event(("item", 2, "abcdefgh")), None)
        self.assertEqual(net.source(2), (1, (2, 1, 0, (("abcdefgh", 1),))))

    def test_letters(self):
        net = done(fed_net(2, "ab", ""), ("send", 1, 2), ("item", 1, "c"), ("send", 1, 1), ("send", 2, 2))
        triples = [(1, 2, sketched(2, "ab")), (1, 3, sketched(2, "abc")), (2, 0, bare(2))]
        letters = [(2, "source", (triples[0],)), (1, "source", (triples[1],)), (2, "source", (triples[2],))]
        self.assertEqual(net.bag(), letters)
        done(net, ("come", 1), ("share", 1, 2), ("share", 2, 2), ("share", 2, 1))
        books = [(2, "book", (triples[1],)), (2, "book", ()), (1, "book", ())]
        self.assertEqual(net.bag(), [letters[0], letters[2], *books])
        self.assertEqual([net.book(1), net.book(2)], [(triples[1],), ()])
        done(net, ("come", 1))
        self.assertEqual([net.book(1), net.book(2)], [(triples[1],), (triples[2],)])
        done(net, ("double", 1))
        self.assertEqual(net.bag(), [letters[0], *books])
        self.assertEqual(net.book(2), (triples[1], triples[2]))
        done(net, ("lose", 1), ("come", 0))
        self.assertEqual(net.bag(), books[1:])
        self.assertEqual(net.book(2), (triples[1], triples[2]))

    def test_letters_in_any_order(self):
        start = fed_net(2, "", collectors=1)
        for name in "abcd":
            done(start, ("item", 1, name), ("send", 1, 1))
        for order in itertools.permutations(range(4)):
            net, places, greatest = start.copy(), list(range(4)), 0
            for number in order:
                net.event(("come", places.index(number)))
                places.remove(number)
                greatest = max(greatest, number + 1)
                self.assertEqual(net.book(1), ((1, greatest, sketched(2, "abcd"[:greatest])),))
            self.assertEqual(net.bag(), [])

    def test_letters_to_a_machine_that_is_down(self):
        net = done(fed_net(2, "abc"), ("send", 1, 1), ("send", 1, 1), ("fall", "collector", 1))
        done(net, ("double", 0), ("come", 0))
        self.assertEqual((len(net.bag()), net.book(1)), (1, ()))
        self.unchanged(net, ("cut", 0, 5))
        done(net, ("rise", "collector", 1))
        self.assertEqual(net.book(1), ())
        done(net, ("come", 0), ("fall", "source", 1), ("fall", "collector", 1))
        self.assertEqual(net.book(1), ((1, 3, sketched(2, "abc")),))
        self.assertEqual((net.source(1), net.names_of(1)), ((3, sketched(2, "abc")), tuple("abc")))

    def test_a_letter_to_a_machine_that_is_down_may_be_written(self):
        net = done(fed_net(1, "a"), ("fall", "collector", 2), ("send", 1, 2), ("share", 1, 2))
        self.assertEqual([letter[0] for letter in net.bag()], [2, 2])
        self.unchanged(net, ("share", 2, 1), ("share", 2, 2))

    def test_up(self):
        net = done(Net(1, 2, 3), ("fall", "source", 2), ("fall", "collector", 1))
        self.assertEqual(net.up(), ((True, False), (False, True, True)))
        done(net, ("rise", "source", 2), ("break", 1, "a", 0), ("compact", "collector", 3, 0))
        self.assertEqual(net.up(), ((False, True), (False, True, False)))

    def test_what_is_returned_may_be_changed(self):
        net = done(fed_net(1, "ab"), ("send", 1, 1), ("send", 1, 2))
        before, events = state_of(net), net.events()
        net.bag().clear()
        net.bag()[0] = None
        net.events().append(("item", 1, "z"))
        net.events().clear()
        self.assertEqual((state_of(net), net.events()), (before, events))

    def test_copies_go_on_apart(self):
        rng = random.Random(31)
        for _ in range(20):
            net = Net(2, 2, 2)
            run(rng, net, rng.randint(0, 30))
            twin = net.copy()
            before, events = state_of(net), net.events()
            self.assertEqual((state_of(twin), twin.events(), twin.beginning()), (before, events, (2, 2, 2)))
            more = run(rng, twin, 20)
            self.assertEqual((state_of(net), net.events()), (before, events))
            self.assertEqual(twin.events(), events + more)
            after = state_of(twin)
            third = net.copy()
            run(rng, net, 20)
            self.assertEqual(state_of(twin), after)
            self.assertEqual(state_of(done(third, *more)), after)


class TestNoEvent(NetTest):
    def test_what_is_no_event(self):
        net = done(fed_net(2, "ab"), ("send", 1, 1), ("send", 1, 2), ("come", 0))
        self.unchanged(net, *odd_values())
        right = [
            ("item", 1, "a"), ("send", 1, 1), ("share", 1, 2), ("come", 0), ("double", 0), ("lose", 0), ("cut", 0, 3),
            ("break", 1, "a", 3), ("fall", "source", 1), ("fall", "collector", 2), ("compact", "source", 1, None),
            ("compact", "collector", 1, 4), ("compact", "source", 1, 0),
        ]
        for event in right:
            done(net.copy(), event)
            self.unchanged(net, list(event), event + (0,), event + (None,), event[:-1], (event,), event[1:], [event])
            self.unchanged(net, (event[0].upper(), *event[1:]), (event[0] + " ", *event[1:]), (None, *event[1:]))
            self.unchanged(net, ((event[0],), *event[1:]), ([event[0]], *event[1:]), ({}, *event[1:]))
            for at in range(1, len(event)):
                for wrong in [True, False, -1, [event[at]], (event[at],), {}, Disk(), net, "\n", 10 ** 29]:
                    # Any number of signs may be written at most.
                    if wrong != 10 ** 29 or (event[0], at) not in (("cut", 2), ("break", 3), ("compact", 3)):
                        self.unchanged(net, event[:at] + (wrong,) + event[at + 1:])

    def test_machines(self):
        net = done(fed_net(2, "ab", "c", collectors=3), ("send", 1, 1))
        for s in (0, 3, 9, -1, True, None, "1"):
            self.unchanged(net, ("item", s, "a"), ("break", s, "a", 0), ("send", s, 1), ("fall", "source", s))
            self.unchanged(net, ("rise", "source", s), ("compact", "source", s, None))
        for c in (0, 4, 9, -1, True, None, "1"):
            self.unchanged(net, ("send", 1, c), ("share", c, 1), ("share", 1, c), ("fall", "collector", c))
            self.unchanged(net, ("rise", "collector", c), ("compact", "collector", c, None))
        for kind in ("", "sources", "Source", None, 1, True, ("source",), ["source"], {}):
            self.unchanged(net, ("fall", kind, 1), ("rise", kind, 1))
            self.unchanged(net, ("compact", kind, 1, None), ("compact", kind, 1, 0))

    def test_machines_that_are_down(self):
        net = done(fed_net(2, "ab", "c"), ("send", 1, 1), ("fall", "source", 1), ("fall", "collector", 1))
        self.unchanged(net, ("item", 1, "a"), ("break", 1, "a", 0), ("break", 1, "a", 99), ("send", 1, 2))
        self.unchanged(net, ("share", 1, 1), ("share", 1, 2), ("cut", 0, 0), ("cut", 0, 99))
        self.unchanged(net, ("fall", "source", 1), ("fall", "collector", 1))
        for n in (None, 0, 999):
            self.unchanged(net, ("compact", "source", 1, n), ("compact", "collector", 1, n))
        self.unchanged(net, ("rise", "source", 2), ("rise", "collector", 2))

    def test_letters_that_are_not_there(self):
        net = done(fed_net(2, "ab"), ("send", 1, 1), ("send", 1, 2))
        for k in (2, 3, -1, 10 ** 29, True, False, None, "0", (0,), [0]):
            self.unchanged(net, ("come", k), ("double", k), ("lose", k), ("cut", k, 0))
        self.unchanged(Net(1, 1, 1), ("come", 0), ("double", 0), ("lose", 0), ("cut", 0, 0))

    def test_names_and_numbers(self):
        net = done(fed_net(2, "ab"), ("send", 1, 1))
        for name in NO_NAMES:
            self.unchanged(net, ("item", 1, name), ("break", 1, name, 0))
        for n in NO_NUMBERS:
            self.unchanged(net, ("break", 1, "a", n), ("cut", 0, n), ("compact", "source", 1, n))
            self.unchanged(net, ("compact", "collector", 1, n))
        self.unchanged(net, ("break", 1, "a", None), ("cut", 0, None))


class TestCuts(NetTest):
    def disk_of(self, *items):
        """The disk of a machine that has noted these."""
        disk = Disk()
        opened(disk)
        for item in items:
            noted(disk, item, None)
        return disk

    def source_disk(self, names):
        """The disk of a source that has noted these names."""
        return self.disk_of(*[("item", name) for name in names])

    def test_an_item(self):
        for names, name in itertools.product(("", "a", "abcab"), ("a", "zz", "abcdefgh")):
            length = line_length(self.source_disk(names), ("item", name))
            for n in range(length + 4):
                net = done(fed_net(2, names), ("break", 1, name, n))
                known = tuple(names) + ((name,) if n >= length else ())
                self.assertEqual(net.up()[0], (False,))
                self.assertEqual((net.source(1), net.names_of(1)), ((len(known), sketched(2, known)), known))
                done(net, ("rise", "source", 1))
                self.assertEqual((net.source(1), net.names_of(1)), ((len(known), sketched(2, known)), known))
                done(net, ("item", 1, "q"), ("fall", "source", 1), ("rise", "source", 1), ("item", 1, "r"))
                self.assertEqual(net.source(1), (len(known) + 2, sketched(2, known + ("q", "r"))))
                self.assertEqual(net.names_of(1), known + ("q", "r"))

    def test_a_letter(self):
        start = done(fed_net(2, "aba", "c"), ("send", 1, 1), ("send", 2, 1), ("send", 1, 1), ("come", 0))
        first, second = (1, 3, sketched(2, "aba")), (2, 1, sketched(2, "c"))
        length = line_length(self.disk_of(("book", (first,))), ("book", (second,)))
        for n in range(length + 4):
            net = done(start.copy(), ("cut", 0, n))
            book = (first, second) if n >= length else (first,)
            self.assertEqual((net.up()[1], len(net.bag()), net.book(1)), ((False, True), 1, book))
            done(net, ("rise", "collector", 1))
            self.assertEqual(net.book(1), book)
            done(net, ("send", 2, 1), ("come", 1), ("fall", "collector", 1), ("rise", "collector", 1))
            self.assertEqual(net.book(1), (first, second))
        for n in (0, 1, 40, 10 ** 9):
            net = done(start.copy(), ("cut", 1, n))
            self.assertEqual((net.up()[1], len(net.bag()), net.book(1)), ((False, True), 1, (first,)))
            done(net, ("rise", "collector", 1), ("come", 0))
            self.assertEqual(net.book(1), (first, second))

    def test_compacting_a_source(self):
        names = tuple("abcabdd")
        sketch = sketched(2, names)
        length = keep_length(self.source_disk(names), (("start", 7, sketch),))
        for n in [None, *range(length + 4), 10 ** 29]:
            net = done(fed_net(2, names), ("compact", "source", 1, n))
            self.assertEqual(net.up()[0], (n is None,))
            self.assertEqual((net.source(1), net.names_of(1)), ((7, sketch), names))
            if n is not None:
                done(net, ("rise", "source", 1))
            done(net, ("item", 1, "a"), ("item", 1, "e"))
            self.assertEqual((net.source(1), net.names_of(1)), ((9, sketched(2, "abcabddae")), tuple("abcabddae")))
            done(net, ("fall", "source", 1))
            self.assertEqual((net.source(1), net.names_of(1)), ((9, sketched(2, "abcabddae")), tuple("abcabddae")))
            done(net, ("rise", "source", 1), ("break", 1, "b", 10), ("rise", "source", 1))
            done(net, ("compact", "source", 1, None), ("break", 1, "b", 10 ** 9), ("rise", "source", 1))
            done(net, ("send", 1, 1), ("come", 0))
            self.assertEqual(net.book(1), ((1, 10, sketched(2, "abcabddaeb")),))
            self.assertEqual(net.names_of(1), tuple("abcabddaeb"))

    def test_what_stands_behind_compacting_shows_in_how_long_the_next_line_is(self):
        rng = random.Random(40)
        unlike = {"source": 0, "collector": 0}
        for _ in range(60):
            model = SlowNet(2, 1, 1)
            net = Net(2, 1, 1)
            for _ in range(rng.randint(1, 6)):
                name = "".join(rng.choice("abxyz") for _ in range(rng.randint(1, 8)))
                for event in (("item", 1, name), ("send", 1, 1), ("come", 0)):
                    model.event(event)
                    net.event(event)
            number, sketch = net.source(1)
            for kind, items, last in (
                ("source", (("start", number, sketch),), ("item", "q")),
                ("collector", (("book", net.book(1)),), ("book", ((1, number + 1, fed(sketch, "q")),))),
            ):
                before = line_length(model.disks[kind][0], last)
                length = keep_length(model.disks[kind][0], items)
                for n in (None, length, length - 1):
                    twin, disk = net.copy(), model.disks[kind][0].copy()
                    kept(disk, items, n)
                    opened(disk)
                    done(twin, ("compact", kind, 1, n), *[("rise", kind, 1)] * (n is not None))
                    whole_length = line_length(disk, last)
                    unlike[kind] += whole_length != before
                    if kind == "collector":
                        done(twin, ("item", 1, "q"), ("send", 1, 1))
                    for m in (whole_length - 1, whole_length):
                        cut = ("break", 1, "q", m) if kind == "source" else ("cut", 0, m)
                        after = done(twin.copy(), cut)
                        told = after.source(1)[0] if kind == "source" else after.book(1)[0][1]
                        self.assertEqual(told, number + (m == whole_length))
        # Lines of unlike lengths are what this test is about, so there must have been some.
        self.assertGreater(min(unlike.values()), 3)

    def test_compacting_a_collector(self):
        start = done(fed_net(1, "aba", "c"), ("send", 1, 1), ("send", 2, 1), ("come", 0))
        first, second = (1, 3, sketched(1, "aba")), (2, 1, sketched(1, "c"))
        length = keep_length(self.disk_of(("book", (first,))), (("book", (first,)),))
        for n in [None, *range(length + 4), 10 ** 29]:
            net = done(start.copy(), ("compact", "collector", 1, n))
            self.assertEqual((net.up()[1], net.book(1)), ((n is None, True), (first,)))
            if n is not None:
                done(net, ("rise", "collector", 1))
            done(net, ("come", 0))
            self.assertEqual(net.book(1), (first, second))
            done(net, ("fall", "collector", 1), ("rise", "collector", 1))
            self.assertEqual(net.book(1), (first, second))
        for n in (None, 0, 20, 10 ** 9):
            net = done(Net(1, 1, 1), ("compact", "collector", 1, n), ("compact", "source", 1, n))
            self.assertEqual((net.book(1), net.source(1)), ((), (0, bare(1))))


class TestRuns(NetTest):
    def test_against_disks_that_are_read_anew(self):
        rng = random.Random(32)
        for _ in range(30):
            room, sources, collectors = rng.randint(1, 3), rng.randint(1, 3), rng.randint(1, 3)
            net, model = Net(room, sources, collectors), SlowNet(room, sources, collectors)
            for _ in range(60):
                event = drawn_event(rng, net)
                net.event(event)
                model.event(event)
                self.assertEqual(state_of(net), model.state())

    def test_facts(self):
        rng = random.Random(33)
        for _ in range(25):
            room, sources, collectors = rng.randint(1, 3), rng.randint(1, 4), rng.randint(1, 3)
            net = Net(room, sources, collectors)
            before = [{} for _ in range(collectors)]
            for _ in range(120):
                net.event(drawn_event(rng, net))
                for c in range(1, collectors + 1):
                    book = net.book(c)
                    self.assertIs(is_book(book), True)
                    numbers = {source: number for source, number, _ in book}
                    for source, number in before[c - 1].items():
                        self.assertGreaterEqual(numbers[source], number)
                    before[c - 1] = numbers
                    for source, number, sketch in book:
                        self.assertLessEqual(number, net.source(source)[0])
                        self.assertEqual(sketch, sketched(room, net.names_of(source)[:number]))
            for s in range(1, sources + 1):
                self.assertEqual(net.source(s), (len(net.names_of(s)), sketched(room, net.names_of(s))))
            for c in range(1, collectors + 1):
                names = [name for source, number, _ in net.book(c) for name in net.names_of(source)[:number]]
                truth = counts_of((("stream", tuple(names)),))
                self.assertIs(is_truth(whole(room, net.book(c)), truth), True)
            net.gather(20000)
            self.gathered(net)


class TestGather(NetTest):
    def test_its_events(self):
        net = done(fed_net(2, "ab", "c", "", collectors=2), ("send", 1, 2))
        done(net, ("fall", "source", 3), ("fall", "source", 1), ("fall", "collector", 2))
        before = net.events()
        told = [("rise", "source", 1), ("rise", "source", 3), ("rise", "collector", 2)]
        told += [("send", s, c) for s in (1, 2, 3) for c in (1, 2)] + [("come", 0)] * 7
        for most in [*range(len(told) + 3), 20000]:
            twin = net.copy()
            self.assertEqual(twin.gather(most), min(most, len(told)))
            self.assertEqual(twin.events(), before + told[:most])
            straight = done(net.copy(), *told[:most])
            self.assertEqual(state_of(twin), state_of(straight))
        net.gather(20000)
        self.gathered(net)

    def test_again(self):
        net = fed_net(1, "aab", "bbc", collectors=3)
        self.assertEqual(net.gather(20000), 12)
        before = state_of(net)
        self.assertEqual(net.gather(20000), 12)
        self.assertEqual(state_of(net), before)
        self.assertEqual((net.gather(7), len(net.bag())), (7, 5))
        self.assertEqual((net.gather(20000), net.bag()), (17, []))
        self.assertEqual(net.gather(0), 0)
        done(net, ("item", 1, "z"))
        net.gather(20000)
        self.gathered(net)

    def test_wrong_numbers(self):
        net = done(fed_net(1, "a"), ("fall", "source", 1))
        before = state_of(net)
        for most in [20001, 10 ** 29, None, *NO_NUMBERS]:
            self.assertRaises(NoNumber, net.gather, most)
        self.assertEqual((net.gather(0), state_of(net), len(net.events())), (0, before, 2))

    def test_a_great_net(self):
        rng = random.Random(34)
        net = Net(64, 9, 9)
        for _ in range(300):
            for s in range(1, 10):
                net.event(("item", s, "".join(rng.choice("abcde") for _ in range(rng.randint(1, 4)))))
        for s in range(1, 10):
            done(net, ("send", s, s), ("share", s, 10 - s), ("compact", "source", s, 300 * s), ("fall", "collector", s))
        self.assertEqual(net.gather(20000), 18 + 81 + 99)
        self.gathered(net)
        for c in range(1, 10):
            for e in range(1, 10):
                done(net, ("share", c, e))
        net.gather(20000)
        self.gathered(net)
        names = [name for s in range(1, 10) for name in net.names_of(s)]
        self.assertEqual(len(names), 2700)
        self.assertIs(is_truth(whole(64, net.book(5)), counts_of((("stream", tuple(names)),))), True)
        self.assertEqual(joined_books(net.book(1), net.book(9)), net.book(5))


if __name__ == "__main__":
    unittest.main()
