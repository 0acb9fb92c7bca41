"""Point 18: the day of a net, and nets that are made again from it."""

import random
import unittest

from knownends.days import day, relived
from knownends.errors import NoDay, NoText
from knownends.net import Net
from knownends.texts import sealed
from tests.helper import odd_values, text_of
from tests.nets import run, state_of

EVENTS = [
    ("item", 1, "a"), ("item", 2, "it"), ("send", 1, 1), ("share", 1, 2), ("double", 0), ("come", 0), ("item", 1, "b"),
    ("send", 1, 1), ("lose", 0), ("cut", 0, 12), ("rise", "collector", 1), ("break", 2, "zz", 9), ("rise", "source", 2),
    ("compact", "source", 1, None), ("compact", "collector", 2, 40), ("fall", "source", 1), ("send", 2, 2),
]


def net_of(numbers, events):
    """The net that began so and did these events."""
    net = Net(*numbers)
    for event in events:
        net.event(event)
    return net


def all_of(net):
    """All that a net tells."""
    return net.beginning(), net.events(), state_of(net)


NET = net_of((2, 2, 2), EVENTS)
DAY = text_of(("net", 2, 2, 2), *[("event", event) for event in EVENTS])
FIRST = DAY.index("\n") + 1


class TestDay(unittest.TestCase):
    def test_texts(self):
        self.assertEqual(day(Net(1, 1, 1)), text_of(("net", 1, 1, 1)))
        self.assertEqual(day(Net(64, 9, 8)), text_of(("net", 64, 9, 8)))
        self.assertEqual(day(NET), DAY)

    def test_it_changes_nothing(self):
        before = all_of(NET)
        self.assertEqual(day(NET), day(NET))
        self.assertEqual(all_of(NET), before)

    def test_gathering_is_told_event_by_event(self):
        net = net_of((1, 1, 1), [("item", 1, "a"), ("fall", "source", 1)])
        net.gather(2)
        entries = [("item", 1, "a"), ("fall", "source", 1), ("rise", "source", 1), ("send", 1, 1)]
        self.assertEqual(day(net), text_of(("net", 1, 1, 1), *[("event", event) for event in entries]))


class TestRelived(unittest.TestCase):
    def check(self, text, many):
        """Just so many of the events are done."""
        net, told = relived(text)
        self.assertEqual(told, many)
        self.assertEqual(all_of(net), all_of(net_of((2, 2, 2), EVENTS[:many])))
        self.assertTrue(DAY.startswith(day(net)))

    def test_the_whole_text(self):
        self.check(DAY, len(EVENTS))
        net, many = relived(text_of(("net", 64, 9, 9)))
        self.assertEqual((many, net.beginning(), net.events()), (0, (64, 9, 9), []))

    def test_cut_behind_each_sign(self):
        for many in range(len(DAY) + 1):
            if many < FIRST:
                self.assertRaises(NoDay, relived, DAY[:many])
            else:
                self.check(DAY[:many], DAY[:many].count("\n") - 1)

    def test_a_sign_exchanged(self):
        for at, sign in enumerate(DAY):
            for other in ("0", "\n", "'", "~"):
                if other != sign:
                    text = DAY[:at] + other + DAY[at + 1:]
                    if at < FIRST:
                        self.assertRaises(NoDay, relived, text)
                    else:
                        self.check(text, DAY[:at].count("\n") - 1)

    def test_lines_left_out_and_doubled(self):
        rows = [row + "\n" for row in DAY.split("\n")[:-1]]
        for at in range(len(rows)):
            less = "".join(rows[:at] + rows[at + 1:])
            if at == 0:
                self.assertRaises(NoDay, relived, less)
            else:
                self.check(less, at - 1)
            self.check("".join(rows[:at + 1] + rows[at:]), at)

    def test_entries_that_are_no_events_or_cannot_be_done(self):
        wrong = [
            "event", ("event",), ("event", EVENTS[0], 1), EVENTS[0], ("Event", EVENTS[0]), (("event",), EVENTS[0]),
            None, 7, (),
            ("net", 2, 2, 2), ("event", None), ("event", ()), ("event", ("item", 3, "a")), ("event", ("item", 1, "A")),
            ("event", ("come", 9)), ("event", ("rise", "source", 1)), ("event", ("cut", 9, 1)),
            ("event", ("item", 1, "a", None)),
            ("item", ("item", 1, "a")),
        ]
        events = [("event", event) for event in EVENTS]
        for entry in wrong:
            self.check(text_of(("net", 2, 2, 2), entry, *events), 0)
            self.check(text_of(("net", 2, 2, 2), *events[:4], entry, *events[4:]), 4)

    def test_other_first_entries(self):
        wrong = [
            ("net",), ("net", 2, 2), ("net", 2, 2, 2, 2), ("Net", 2, 2, 2), ("net", 0, 2, 2), ("net", 65, 2, 2),
            ("net", 2, 0, 2),
            ("net", 2, 10, 2), ("net", 2, 2, 0), ("net", 2, 2, 10), ("net", None, 2, 2), ("net", 2, "2", 2),
            ("net", 2, 2, (2,)),
            "net", None, 7, (), ("event", EVENTS[0]), (("net",), 2, 2, 2), ("net", -1, 2, 2), ("area", 0), "abcd",
        ]
        for entry in wrong:
            self.assertRaises(NoDay, relived, text_of(entry))
            self.assertRaises(NoDay, relived, text_of(entry, ("net", 2, 2, 2), ("event", EVENTS[0])))
        unchecked = sealed(("net", 2, 2, 2)) + "\n"
        for text in ("", "\n", "x", DAY[:FIRST - 1], " " + DAY, "\n" + DAY, DAY[FIRST:], unchecked):
            self.assertRaises(NoDay, relived, text)

    def test_no_texts(self):
        for value in (DAY + "\t", "\t" + DAY, "\r", "\x7f", DAY[:FIRST] + "\xe9", "\x00", [DAY], (DAY,), NET):
            self.assertRaises(NoText, relived, value)
        for value in odd_values():
            self.assertRaises(NoDay if isinstance(value, str) else NoText, relived, value)

    def test_drawn(self):
        rng = random.Random(36)
        for _ in range(25):
            numbers = rng.randint(1, 4), rng.randint(1, 3), rng.randint(1, 3)
            net = Net(*numbers)
            events = run(rng, net, 40)
            text = day(net)
            again, many = relived(text)
            self.assertEqual((many, all_of(again)), (40, all_of(net)))
            self.assertEqual(day(again), text)
            run(rng, again, 5)
            self.assertTrue(day(again).startswith(text))
            for cut in [rng.randrange(text.index("\n") + 1, len(text)) for _ in range(8)]:
                part, many = relived(text[:cut])
                self.assertEqual(all_of(part), all_of(net_of(numbers, events[:many])))
                self.assertTrue(text.startswith(day(part)))


if __name__ == "__main__":
    unittest.main()
