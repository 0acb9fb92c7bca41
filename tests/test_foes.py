"""The second part of point 12: keepers, and what a foe finds wrong with them."""

import itertools
import unittest

from knownends.errors import NoNumber, NoRoom
from knownends.foes import is_verdict, play
from knownends.questions import ends
from knownends.rooms import most_off
from knownends.sketches import bare, fed
from knownends.streams import is_name
from tests.helper import odd_values

BOUNDS = [(1, 1), (1, 2), (1, 9), (2, 1), (2, 2), (2, 3), (3, 20), (5, 64), (30, 200)]


def sketched(room):
    """A maker of sketches of this package."""
    def maker():
        box = [bare(room)]

        def feed(name):
            box[0] = fed(box[0], name)
        return feed, lambda: tuple(name for name, _ in box[0][3]), lambda name: ends(box[0], ("count", name))
    return maker


def counting(names_of, ends_of):
    """A maker of keepers that count all names; these functions of the counts, in order of arrival, tell the rest."""
    def maker():
        table = {}

        def feed(name):
            table[name] = table.get(name, 0) + 1
        return feed, lambda: names_of(table), lambda name: ends_of(table, name)
    return maker


def exact(table, name):
    """Both ends at the very count."""
    return table.get(name, 0), table.get(name, 0)


def wide(table, name):
    """Ends that hold whatever can be."""
    return 0, sum(table.values())


def firsts(room):
    """What tells the first so many names that came."""
    return lambda table: tuple(table)[:room]


def kept_exactly(room):
    """What tells the very count of the first names, and of all others what can be."""
    return lambda table, name: exact(table, name) if name in firsts(room)(table) else wide(table, name)


def of_kept(room, told):
    """What tells something else of kept names, wide ends of others."""
    return lambda table, name: told(table, name) if name in firsts(room)(table) else wide(table, name)


def of_others(room, told):
    """What tells something else of names that aren't kept, the very count of those that are."""
    return lambda table, name: told(table, name) if name not in firsts(room)(table) else exact(table, name)


def sound(room):
    """Makers of keepers with which nothing is wrong."""
    return [
        sketched(room), counting(lambda table: (), wide), counting(firsts(room), wide),
        counting(firsts(room), kept_exactly(room)), counting(lambda table: tuple(table)[-room:], wide),
        counting(lambda table: tuple(sorted(table, key=lambda name: -table[name])[:room]), wide),
        counting(firsts(room), lambda table, name: (-10 ** 29, 10 ** 29)),
        counting(lambda table: ("zzzzzzzz",), wide),
    ]


def hoarders(room):
    """Makers of keepers that keep too many, or tell what they keep in a wrong way."""
    told = [
        lambda table: tuple("abcdefghijklmnopqrstuvwxyz") + tuple("a" + letter for letter in "abcdefghijklmnopqrstuvwxy")
        + tuple("b" + letter for letter in "abcdefghijklmnopqrst"),
        lambda table: ("a", "a"), lambda table: list(table)[:room], lambda table: None, lambda table: True,
        lambda table: "a", lambda table: {}, lambda table: [], lambda table: ("A",), lambda table: (1,),
        lambda table: ("",), lambda table: (("a",),), lambda table: (None,), lambda table: (True,),
        lambda table: (["a"],), lambda table: ({},), lambda table: ("abcdefghi",), lambda table: 0,
    ]
    return [counting(names_of, wide) for names_of in told]


def liars(room):
    """Makers of keepers that lie about counts, or tell no pair of integers."""
    def about(told):
        return [counting(firsts(room), of_kept(room, told)), counting(firsts(room), of_others(room, told)),
                counting(lambda table: (), told)]
    told = [
        lambda table, name: (table.get(name, 0) + 1, 10 ** 9), lambda table, name: (-5, table.get(name, 0) - 1),
        lambda table, name: (sum(table.values()) + 1, 0), lambda table, name: (10, -10),
        lambda table, name: (False, sum(table.values())), lambda table, name: (0, True),
        lambda table, name: [0, sum(table.values())], lambda table, name: None, lambda table, name: (0,),
        lambda table, name: (0, 10 ** 9, 10 ** 9), lambda table, name: table.get(name, 0), lambda table, name: (),
        lambda table, name: (None, None), lambda table, name: ("0", "9"), lambda table, name: (0, None),
        lambda table, name: {0: 0, 1: 10 ** 9}, lambda table, name: ((0,), (10 ** 9,)), lambda table, name: "09",
        lambda table, name: True,
    ]
    return [maker for one in told for maker in about(one)] + [
        counting(firsts(room), lambda table, name: exact(table, name) if name in tuple(table)[:room] else (0, 0)),
    ]


def knowers(room):
    """Makers of keepers that tell unlike ends of names that they do not keep."""
    def barely(table, name):
        return 0, sum(table.values()) + (name in table)
    return [
        counting(lambda table: (), exact), counting(firsts(room), exact), counting(firsts(room - 1), exact),
        counting(lambda table: (), barely), counting(lambda table: (), lambda table, name: (0, 10 ** 9 + len(name))),
        counting(lambda table: (), lambda table, name: (-len(name), 10 ** 9)),
        counting(lambda table: ("zzzzzzzz",), exact),
    ]


def after(maker, stream):
    """What tells the kept names, and the ends, behind a stream."""
    feed, kept, told = maker()
    for name in stream:
        feed(name)
    return kept(), told


def is_kept(names, room):
    """Whether it is a tuple of at most room unlike names."""
    return isinstance(names, tuple) and len(names) <= room and all(map(is_name, names)) and len({*names}) == len(names)


def is_pair(pair):
    """Whether it is a pair of integers."""
    return type(pair) is tuple and len(pair) == 2 and type(pair[0]) is int and type(pair[1]) is int


def holds(maker, room, many, verdict):
    """Whether a verdict holds, by its words."""
    word, stream, *names = verdict
    kept, told = after(maker, stream)
    pairs = [told(name) for name in names]
    right = [is_pair(pair) and pair[0] <= stream.count(name) <= pair[1] for pair, name in zip(pairs, names)]
    strange = all(not isinstance(kept, tuple) or name not in kept for name in names)
    if word == "keeps":
        return not is_kept(kept, room)
    if word == "lies":
        return right == [False]
    if word == "knows":
        return strange and all(right) and pairs[0] != pairs[1]
    return strange and is_pair(pairs[0]) and pairs[0][1] - pairs[0][0] >= most_off(room, many)


class TestPlay(unittest.TestCase):
    def check(self, maker, room, many, word):
        """That the verdict is of this kind, or at least of one of these, and holds."""
        verdict = play(maker, room, many)
        self.assertIn(verdict[0], word.split())
        self.assertIs(type(verdict), tuple)
        self.assertEqual(len(verdict[1]), many)
        least = [a + b for a in ("", *"abcdefghij") for b in "abcdefghijklmnopqrstuvwxyz"][:room + 1]
        self.assertLessEqual(set(verdict[1]), set(least))
        self.assertTrue(holds(maker, room, many, verdict))
        self.assertIs(is_verdict(maker, room, many, verdict), True)
        self.assertEqual(play(maker, room, many), verdict)

    def test_sound_ones(self):
        for room, many in BOUNDS:
            for maker in sound(room):
                self.check(maker, room, many, "wide")

    def test_sketches(self):
        for room, many in ((1, 2000), (2, 2000), (8, 1999), (63, 2000), (64, 2000), (64, 64), (64, 65), (64, 1)):
            self.check(sketched(room), room, many, "wide")
            self.check(sketched(max(1, room - 1)), room, many, "wide")

    def test_what_keeps_more_room(self):
        for room in (1, 2, 5):
            self.check(sketched(room + 1), room, room + 1, "keeps")
            self.check(sketched(64), room, 2000, "keeps")
            self.check(counting(tuple, exact), room, 500, "keeps")
            self.check(counting(tuple, exact), room, room, "wide")

    def test_hoarders(self):
        for room, many in BOUNDS:
            for maker in hoarders(room):
                self.check(maker, room, many, "keeps")

    def test_liars(self):
        for room, many in BOUNDS:
            for maker in liars(room):
                # What lies only of names that it counts, or doesn't, may have none of them.
                self.check(maker, room, many, "lies" if many > room else "lies wide")

    def test_knowers(self):
        for room, many in BOUNDS:
            for maker in knowers(room):
                self.check(maker, room, many, "knows" if many > room else "knows wide")

    def test_ends_of_a_part_of_the_names(self):
        for at in range(4):
            name = "abcd"[at]
            maker = counting(firsts(3), lambda table, word: (5, 4) if word == name else wide(table, word))
            self.check(maker, 3, 40, "lies")

    def test_a_lie_that_only_few_streams_show(self):
        # Right ends while something was taken off, and one too many ahead of it.
        def maker():
            feed, kept, told = sketched(3)()
            return feed, kept, lambda name: (told(name)[0], told(name)[1] - (told(name)[0] == told(name)[1] > 0))
        self.check(maker, 3, 40, "lies")

    def test_errors(self):
        for room in [0, 65, -1, True, False, None, "1", (), (1,), [1], {}]:
            self.assertRaises(NoRoom, play, sketched(1), room, 5)
            self.assertRaises(NoRoom, play, sketched(1), room, 0)
            self.assertRaises(NoRoom, is_verdict, sketched(1), room, 0, None)
        for many in [0, 2001, -1, True, False, None, "1", (), (1,), [1], {}, 10 ** 29]:
            self.assertRaises(NoNumber, play, sketched(1), 1, many)
            self.assertRaises(NoNumber, is_verdict, sketched(1), 1, many, None)


class TestIsVerdict(unittest.TestCase):
    def test_all_short_streams(self):
        words = ["", "a", "b", "ab", "aba", "abc", "aabbc"]
        for room, many in ((1, 4), (2, 5)):
            makers = sound(room) + hoarders(room) + liars(room) + knowers(room)
            for maker, word in itertools.product(makers, words):
                stream = tuple(word)
                things = [("keeps", stream)] + [("lies", stream, name) for name in "abz"]
                things += [("wide", stream, name) for name in "abz"]
                things += [("knows", stream, *names) for names in itertools.permutations("abz", 2)]
                for thing in things:
                    right = len(stream) <= many and holds(maker, room, many, thing)
                    self.assertIs(is_verdict(maker, room, many, thing), right, thing)

    def test_streams_longer_than_many(self):
        maker = counting(lambda table: None, exact)
        self.assertIs(is_verdict(maker, 1, 3, ("keeps", ("a", "b", "c"))), True)
        self.assertIs(is_verdict(maker, 1, 2, ("keeps", ("a", "b", "c"))), False)
        self.assertIs(is_verdict(maker, 1, 2, ("keeps", ())), True)
        self.assertIs(is_verdict(sketched(1), 1, 2000, ("wide", ("a", "b") * 1000, "zz")), True)
        self.assertIs(is_verdict(sketched(1), 1, 1999, ("wide", ("a", "b") * 1000, "zz")), False)

    def test_how_wide(self):
        for width in (4, 5, 6):
            maker = counting(firsts(1), lambda table, name: (3, 3 + width))
            for many, right in ((8, width >= 4), (9, width >= 4), (10, width >= 5), (12, width >= 6), (14, False)):
                self.assertIs(is_verdict(maker, 1, many, ("wide", ("a",), "b")), right)
                self.assertIs(is_verdict(maker, 1, many, ("wide", ("a",), "a")), False)

    def test_other_things(self):
        makers = [sketched(1), counting(lambda table: None, lambda table, name: None)]
        makers += [counting(lambda table: (), lambda table, name: (-len(name), 9))]
        wrong = [
            ("keeps",), ("keeps", "a"), ("keeps", ["a"]), ("keeps", ("a",), "a"), ["keeps", ("a",)], ("keeps", ("A",)),
            ("keeps", (1,)), ("keeps", None), ("keeps", ("a", ("b",))), ("lies", ("a",)), ("lies", ("a",), "A"),
            ("lies", ("a",), 1), ("lies", ("a",), ["a"]), ("lies", ("a",), "a", "b"), ["lies", ("a",), "a"],
            ("lies", ["a"], "a"), ("lies", ("a",), ""), ("lies", ("a",), None), ("knows", ("a",), "b"),
            ("knows", ("a",), "b", "b"), ("knows", ("a",), "bb", "c", "d"), ("knows", ["a"], "bb", "c"),
            ("knows", ("a",), "bb", "C"), ("knows", ("a",), ("bb", "c")), ("wide", ("a",)), ("wide", ("a",), "b", "c"),
            ("wide", ["a"], "b"), ("wide", ("a",), "B"), ("wide", ("a",), None), ("wide", ("a",), ("b",)),
            ("finds", ("a",), "b"), ("", ("a",)), (None, ("a",)), (True, ("a",), "b"), (("keeps",), ("a",)),
            (("a",), "keeps"), ({}, ("a",)), (["keeps"], ("a",)), ("keep", ("a",)), ("a",), (), None, "keeps", True,
        ]
        for maker in makers:
            for thing in [*wrong, *odd_values()]:
                self.assertIs(is_verdict(maker, 1, 9, thing), False, repr(thing)[:60])
        self.assertIs(is_verdict(makers[1], 1, 9, ("keeps", ("a",))), True)
        self.assertIs(is_verdict(makers[1], 1, 9, ("lies", ("a",), "b")), True)
        self.assertIs(is_verdict(makers[2], 1, 9, ("knows", ("a",), "bb", "c")), True)
        self.assertIs(is_verdict(makers[2], 1, 9, ("wide", ("a",), "b")), True)


if __name__ == "__main__":
    unittest.main()
