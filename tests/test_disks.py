"""The first part of point 7: disks, their lines, and what is found on them behind a cut."""

import unittest

from knownends.disks import Disk, kept, lines, noted, opened, rest, standing
from knownends.errors import NoArea, NoItems, NoNumber, NoStand, NoText, NoThing
from knownends.texts import check, sealed, unsealed
from tests.helper import nested, odd_values, text_of

NO_AREAS = [True, False, 2, -1, None, "0", "", (), (0,), [], [0], [1], {}, {0: 1}, 10 ** 29, Disk()]
NO_TEXTS = ["\t", "a\tb", "\r\n", "\x7f", "\x1f", "\xe9", "\x00", None, True, 0, (), ("a",), [], ["a"], {}, Disk()]
NO_NUMBERS = [-1, True, False, "1", (), (1,), [1], {}, -(10 ** 29), Disk()]
NO_THINGS = [True, False, [], {}, "\n", "a\tb", 10 ** 30, -(10 ** 30), (True,), (1, []), ("\n",), Disk(), (Disk(),)]
NO_THINGS += [nested(29, tuple), nested(30, tuple), (1, nested(28, tuple)), nested(3, list), nested(30, dict)]
THINGS = [0, -7, 10 ** 30 - 1, None, "", "it's ~ #1", (), ("item", "whole"), ("a", (1, None)), nested(28, tuple)]


def disk_of(one, other):
    """A disk with these texts."""
    disk = Disk()
    disk.append(0, one, None)
    disk.append(1, other, None)
    return disk


def areas(disk):
    """Both texts of a disk."""
    return disk.area(0), disk.area(1)


def counted(text):
    """The entries of the counted lines and how many signs they have, each line with the check of all ahead."""
    entries, ahead = [], ""
    for line in text.split("\n")[:-1]:
        told = unsealed(line)
        if told == () or not isinstance(told[0], tuple) or len(told[0]) != 2 or told[0][0] != check(ahead):
            break
        entries.append(told[0][1])
        ahead += line + "\n"
    return entries, len(ahead)


AREA = text_of(("area", 3), ("item", "a"), ("whole",), ("item", ("b", None)), ("item", 7))
BARE = text_of(("area", 0), ("whole",))


class TestDisk(unittest.TestCase):
    def test_both_empty(self):
        self.assertEqual(areas(Disk()), ("", ""))

    def test_append(self):
        disk = Disk()
        for most, many in ((None, 3), (0, 0), (1, 1), (2, 2), (3, 3), (4, 3), (10 ** 29, 3)):
            before = areas(disk)
            self.assertEqual(disk.append(0, "a\n~", most), many)
            self.assertEqual(areas(disk), (before[0] + "a\n~"[:many], ""))
        self.assertEqual(disk.append(1, "", None), 0)
        self.assertEqual(disk.append(1, "", 5), 0)
        self.assertEqual(disk.append(1, "x", None), 1)
        self.assertEqual(disk.append(1, " y", 1), 1)
        self.assertEqual(disk.area(1), "x ")

    def test_clear(self):
        disk = disk_of("abc", "de\n")
        self.assertIs(disk.clear(0), None)
        self.assertEqual(areas(disk), ("", "de\n"))
        disk.clear(0)
        disk.clear(1)
        self.assertEqual(areas(disk), ("", ""))

    def test_shorten(self):
        disk = disk_of("abc", "de\n")
        self.assertIs(disk.shorten(0, 3), None)
        self.assertEqual(areas(disk), ("abc", "de\n"))
        disk.shorten(1, 2)
        self.assertEqual(areas(disk), ("abc", "de"))
        disk.shorten(0, 0)
        self.assertEqual(areas(disk), ("", "de"))
        disk.shorten(0, 0)
        self.assertRaises(NoNumber, disk.shorten, 0, 1)
        self.assertRaises(NoNumber, disk.shorten, 1, 3)

    def test_copies_go_on_apart(self):
        disk = disk_of(AREA, "x")
        twin = disk.copy()
        self.assertEqual(areas(twin), areas(disk))
        self.assertTrue(twin == disk)
        noted(twin, "new", None)
        self.assertEqual(disk.area(0), AREA)
        disk.clear(0)
        self.assertEqual(twin.area(0)[:len(AREA)], AREA)
        third = twin.copy()
        twin.shorten(0, 5)
        self.assertEqual(opened(third), ["a", ("b", None), 7, "new"])
        self.assertEqual(opened(twin), [])
        self.assertEqual(opened(third), ["a", ("b", None), 7, "new"])

    def test_equal(self):
        self.assertTrue(Disk() == Disk())
        self.assertFalse(Disk() != Disk())
        self.assertTrue(disk_of("a", "b") == disk_of("a", "b"))
        for other in (disk_of("b", "a"), disk_of("a", ""), disk_of("", "b"), disk_of("a", "b\n"), Disk()):
            self.assertFalse(disk_of("a", "b") == other)
            self.assertTrue(disk_of("a", "b") != other)

    def test_equal_whatever_was_read(self):
        read, unread = disk_of(AREA, BARE), disk_of(AREA, BARE)
        standing(read)
        self.assertTrue(read == unread)

    def test_equal_to_nothing_else(self):
        for value in [None, 0, "", (), ("", ""), ["", ""], {}, [Disk()], NoArea(), *odd_values()]:
            if not isinstance(value, Disk):
                self.assertIs(Disk() == value, False)
                self.assertIs(value == Disk(), False)
                self.assertIs(Disk() != value, True)

    def test_wrong_areas(self):
        for k in NO_AREAS:
            disk = disk_of(AREA, "x")
            calls = [lambda: disk.area(k), lambda: disk.append(k, "a", None), lambda: disk.clear(k)]
            calls += [lambda: disk.shorten(k, 0), lambda: disk.append(k, "\t", -1), lambda: disk.shorten(k, -1)]
            for call in calls:
                self.assertRaises(NoArea, call)
            self.assertEqual(areas(disk), (AREA, "x"))

    def test_wrong_texts(self):
        for text in NO_TEXTS:
            disk = disk_of("abc", "x")
            self.assertRaises(NoText, disk.append, 0, text, None)
            self.assertRaises(NoText, disk.append, 1, text, -1)
            self.assertEqual(areas(disk), ("abc", "x"))

    def test_wrong_numbers(self):
        for number in NO_NUMBERS:
            disk = disk_of("abc", "x")
            self.assertRaises(NoNumber, disk.append, 0, "a", number)
            self.assertRaises(NoNumber, disk.shorten, 0, number)
            self.assertEqual(areas(disk), ("abc", "x"))
        for number in (None, 4, 10 ** 29):
            self.assertRaises(NoNumber, disk.shorten, 0, number)
        self.assertEqual(areas(disk), ("abc", "x"))


class TestLines(unittest.TestCase):
    def test_whole_texts(self):
        self.assertEqual(lines(""), [])
        self.assertEqual(rest(""), 0)
        self.assertEqual(lines(BARE), [("area", 0), ("whole",)])
        self.assertEqual(BARE.split("\n")[0], "(0,('area',0))#" + str(check("(0,('area',0))")))
        entries = [("area", 3), ("item", "a"), ("whole",), ("item", ("b", None)), ("item", 7)]
        self.assertEqual(lines(AREA), entries)
        self.assertEqual(rest(AREA), len(AREA))
        for entry in THINGS:
            self.assertEqual(lines(text_of(entry, entry)), [entry, entry])

    def test_each_call_tells_a_new_list(self):
        told = lines(AREA)
        told.clear()
        self.assertEqual(len(lines(AREA)), 5)
        disk = disk_of(AREA, "")
        opened(disk).clear()
        self.assertEqual(opened(disk), ["a", ("b", None), 7])

    def test_torn_behind_any_sign(self):
        ends = [at + 1 for at, sign in enumerate(AREA) if sign == "\n"]
        for many in range(len(AREA) + 1):
            whole = [end for end in ends if end <= many]
            self.assertEqual(rest(AREA[:many]), max(whole, default=0))
            self.assertEqual(lines(AREA[:many]), lines(AREA)[:len(whole)])

    def test_any_sign_spoilt(self):
        ends = [0] + [at + 1 for at, sign in enumerate(AREA) if sign == "\n"]
        for at in range(len(AREA)):
            ahead = max(end for end in ends if end <= at)
            for sign in "a0'(\n~":
                if sign != AREA[at]:
                    text = AREA[:at] + sign + AREA[at + 1:]
                    self.assertEqual(rest(text), ahead)
                    self.assertEqual((lines(text), rest(text)), counted(text))

    def test_lines_doubled_exchanged_left_out(self):
        rows = [row + "\n" for row in AREA.split("\n")[:-1]]
        for k, row in enumerate(rows):
            ahead = sum(len(other) for other in rows[:k])
            doubled = "".join(rows[:k + 1] + rows[k:])
            self.assertEqual((rest(doubled), len(lines(doubled))), (ahead + len(row), k + 1))
            less = "".join(rows[:k] + rows[k + 1:])
            self.assertEqual((rest(less), len(lines(less))), (ahead, k))
            if k + 1 < len(rows):
                turned = "".join(rows[:k] + [rows[k + 1], row] + rows[k + 2:])
                self.assertEqual((rest(turned), len(lines(turned))), (ahead, k))

    def test_sealed_but_no_line(self):
        first = text_of("x")
        wrong = [sealed(thing) for thing in (7, None, "a", (), (0,), (0, 1, 2), ("0", 1), (None, 1), ((0,), 1))]
        wrong += [sealed((1, "x")), sealed((99991, "x")), sealed((-1, "x")), "", "#0", "x"]
        for row in wrong:
            self.assertEqual((lines(row + "\n"), rest(row + "\n")), ([], 0))
        for row in [*wrong, sealed((0, "x")), sealed((check(first) + 1, "x")), sealed((check(first[:-1]) + 5, "x"))]:
            self.assertEqual((lines(first + row + "\n" + first), rest(first + row + "\n")), (["x"], len(first)))
        self.assertEqual(lines(first + sealed((check(first), "y")) + "\n\n"), ["x", "y"])

    def test_a_check_of_many_signs(self):
        text = text_of(*["~" * 3000, "", "ab" * 2000, ("item", "~" * 5000), None])
        self.assertEqual((lines(text), rest(text)), (counted(text)[0], len(text)))
        self.assertEqual(len(lines(text)), 5)

    def test_no_texts(self):
        for text in NO_TEXTS:
            self.assertRaises(NoText, lines, text)
            self.assertRaises(NoText, rest, text)


class TestStanding(unittest.TestCase):
    def test_none(self):
        torn = [BARE[:-1], BARE[:30], text_of(("area", 1)), text_of(("whole",)), text_of(("whole",), ("area", 1))]
        torn += [text_of(("area", g), ("whole",)) for g in (-1, None, "1", (), (1,), "")]
        torn += [text_of(first, ("whole",)) for first in (("area",), ("area", 1, 1), "area", ("AREA", 1), ("item", 1))]
        torn += [text_of(("area", 1), later) for later in ("whole", ("whole", 1), (("whole",),), ("item", ("whole",)))]
        torn += [text_of("x", ("area", 1), ("whole",)), " " + BARE, "\n" + BARE, ""]
        for text in torn:
            for disk in (disk_of(text, ""), disk_of("", text), disk_of(text, text)):
                self.assertIs(standing(disk), None, repr(text))

    def test_either(self):
        for text in (BARE, AREA, AREA + "x", AREA + AREA, text_of(("area", 10 ** 30 - 1), ("item", 1), ("whole",))):
            self.assertEqual(standing(disk_of(text, "")), 0)
            self.assertEqual(standing(disk_of("", text)), 1)
            self.assertEqual(standing(disk_of(text, AREA[:40])), 0)
            self.assertEqual(standing(disk_of(AREA[:40], text)), 1)

    def test_both(self):
        for one in (0, 1, 2, 9, 10):
            for other in (0, 1, 2, 9, 10):
                disk = disk_of(text_of(("area", one), ("whole",)), text_of(("area", other), ("whole",)))
                self.assertEqual(standing(disk), 0 if one >= other else 1)

    def test_a_later_area_entry_tells_nothing(self):
        text = text_of(("area", 1), ("area", 9), ("whole",), ("area", 12), ("item", "a"))
        self.assertEqual(standing(disk_of(text, text_of(("area", 2), ("whole",)))), 1)
        self.assertEqual(opened(disk_of(text, BARE)), ["a"])
        self.assertIs(standing(disk_of(text_of(("area", None), ("area", 1), ("whole",)), "")), None)

    def test_it_sees_what_was_written_struck_and_cleared_since(self):
        disk = Disk()
        for at, sign in enumerate(AREA):
            disk.append(1, sign, None)
            self.assertEqual(standing(disk), 1 if ("whole",) in counted(AREA[:at + 1])[0] else None)
        disk.shorten(1, rest(AREA) - 1)
        self.assertEqual(standing(disk), 1)
        disk.shorten(1, 5)
        self.assertIs(standing(disk), None)
        disk.append(1, AREA[5:], None)
        self.assertEqual(standing(disk), 1)
        disk.clear(1)
        self.assertIs(standing(disk), None)
        disk.append(1, BARE, None)
        self.assertEqual(standing(disk), 1)

    def test_it_changes_nothing(self):
        disk = disk_of(AREA + "x", BARE + "y")
        standing(disk)
        self.assertEqual(areas(disk), (AREA + "x", BARE + "y"))


class TestOpened(unittest.TestCase):
    def test_none_stands(self):
        for disk in (Disk(), disk_of("x", "y"), disk_of(BARE[:-1], AREA[:50]), disk_of("", text_of(("area", 4)))):
            self.assertEqual(opened(disk), [])
            self.assertEqual(areas(disk), (BARE, ""))
            self.assertEqual(opened(disk), [])
            self.assertEqual(areas(disk), (BARE, ""))

    def test_one_stands(self):
        for tail in ("", "x", "\n", AREA, BARE, sealed((check(AREA), ("item", 8))), AREA[:20] + "\n"):
            for other in ("", "x", BARE, AREA[:50], text_of(("area", 9))):
                disk = disk_of(AREA + tail, other)
                self.assertEqual(opened(disk), ["a", ("b", None), 7])
                self.assertEqual(areas(disk), (AREA, ""))
                turned = disk_of(other, AREA + tail)
                self.assertEqual(opened(turned), ["a", ("b", None), 7])
                self.assertEqual(areas(turned), ("", AREA))
                self.assertEqual(opened(turned), ["a", ("b", None), 7])
                self.assertEqual(areas(turned), ("", AREA))

    def test_just_the_items(self):
        text = text_of(
            ("area", 1), ("item", 1), "item", ("item",), ("item", 2, 3), ("whole",), ("items", 4), None, ("item", ()),
            ("item", ("item", 5)), 6, ("whole",), (("item",), 7), ("item", 1),
        )
        self.assertEqual(opened(disk_of(text, "")), [1, (), ("item", 5), 1])


class TestNoted(unittest.TestCase):
    def test_lines(self):
        disk = Disk()
        opened(disk)
        self.assertEqual(noted(disk, "a", None), len(text_of(("area", 0), ("whole",), ("item", "a"))) - len(BARE))
        text = text_of(("area", 0), ("whole",), ("item", "a"))
        self.assertEqual(areas(disk), (text, ""))
        for item in THINGS:
            noted(disk, item, None)
        entries = [("area", 0), ("whole",), ("item", "a")] + [("item", item) for item in THINGS]
        self.assertEqual(disk.area(0), text_of(*entries))
        self.assertEqual(opened(disk), ["a"] + THINGS)

    def test_behind_the_area_that_stands(self):
        disk = disk_of(BARE, AREA)
        many = noted(disk, 8, None)
        self.assertEqual(disk.area(0), BARE)
        self.assertEqual(disk.area(1), AREA + sealed((check(AREA), ("item", 8))) + "\n")
        self.assertEqual(many, len(disk.area(1)) - len(AREA))

    def test_cut_anywhere(self):
        for ahead, found in ((BARE, []), (AREA, ["a", ("b", None), 7])):
            for item in THINGS[:7]:
                line = sealed((check(ahead), ("item", item))) + "\n"
                for most in range(len(line) + 2):
                    disk = disk_of("", ahead)
                    self.assertEqual(noted(disk, item, most), min(most, len(line)))
                    self.assertEqual(disk.area(1), ahead + line[:most])
                    self.assertEqual(opened(disk), found + [item] if most >= len(line) else found)
                    self.assertEqual(disk.area(1), ahead + line if most >= len(line) else ahead)
                    noted(disk, "next", None)
                    self.assertEqual(opened(disk)[-1], "next")

    def test_errors(self):
        for start in (Disk(), disk_of(BARE, "x"), disk_of("x", "")):
            before = areas(start)
            for item in NO_THINGS:
                self.assertRaises(NoItems, noted, start, item, None)
                self.assertRaises(NoItems, noted, start, item, -1)
            for most in NO_NUMBERS:
                self.assertRaises(NoNumber, noted, start, "a", most)
            self.assertEqual(areas(start), before)
        for disk in (Disk(), disk_of("x", BARE[:-1])):
            before = areas(disk)
            self.assertRaises(NoStand, noted, disk, "a", None)
            self.assertRaises(NoStand, noted, disk, nested(28, tuple), 0)
            self.assertEqual(areas(disk), before)


class TestKept(unittest.TestCase):
    def test_the_other_area_is_younger(self):
        disk = disk_of("old", AREA)
        text = text_of(("area", 4), ("item", "n"), ("item", ()), ("whole",))
        self.assertEqual(kept(disk, ("n", ()), None), len(text))
        self.assertEqual(areas(disk), (text, AREA))
        self.assertEqual(opened(disk), ["n", ()])
        self.assertEqual(areas(disk), (text, ""))
        younger = text_of(("area", 5), ("whole",))
        self.assertEqual(kept(disk, (), None), len(younger))
        self.assertEqual(areas(disk), (text, younger))
        self.assertEqual(opened(disk), [])
        self.assertEqual(areas(disk), ("", younger))

    def test_many_items(self):
        disk = Disk()
        opened(disk)
        kept(disk, tuple(THINGS * 20), None)
        self.assertEqual(opened(disk), THINGS * 20)
        noted(disk, "a", None)
        self.assertEqual(opened(disk), THINGS * 20 + ["a"])

    def test_cut_anywhere(self):
        for items in ((), ("a",), ("it's", (1, None), -5)):
            text = text_of(("area", 4), *[("item", item) for item in items], ("whole",))
            for most in range(len(text) + 2):
                disk = disk_of(AREA, AREA[:30])
                self.assertEqual(kept(disk, items, most), min(most, len(text)))
                self.assertEqual(areas(disk), (AREA, text[:most]))
                found = opened(disk)
                self.assertEqual(found, list(items) if most >= len(text) else ["a", ("b", None), 7])
                self.assertEqual(areas(disk), ("", text) if most >= len(text) else (AREA, ""))
                noted(disk, "next", None)
                self.assertEqual(opened(disk), found + ["next"])

    def test_errors(self):
        wrong = [(item,) for item in NO_THINGS] + [("a", item) for item in NO_THINGS]
        wrong += [None, "a", "", 1, True, [], ["a"], {}, {"a": 1}, Disk()]
        for start in (Disk(), disk_of(BARE, "x"), disk_of("x", "")):
            before = areas(start)
            for items in wrong:
                self.assertRaises(NoItems, kept, start, items, None)
                self.assertRaises(NoItems, kept, start, items, True)
            for most in NO_NUMBERS:
                self.assertRaises(NoNumber, kept, start, ("a",), most)
            self.assertEqual(areas(start), before)
        for disk in (Disk(), disk_of("x", BARE[:-1])):
            before = areas(disk)
            self.assertRaises(NoStand, kept, disk, (), None)
            self.assertRaises(NoStand, kept, disk, (nested(28, tuple),), 0)
            self.assertEqual(areas(disk), before)

    def test_the_last_generation_that_has_a_text(self):
        for g in (10 ** 30 - 2, 10 ** 30 - 1):
            disk = disk_of("x", text_of(("area", g), ("whole",), ("item", "a")))
            before = areas(disk)
            if g + 1 < 10 ** 30:
                kept(disk, ("b",), None)
                self.assertEqual(areas(disk), (text_of(("area", g + 1), ("item", "b"), ("whole",)), before[1]))
            else:
                self.assertRaises(NoThing, kept, disk, ("b",), None)
                self.assertEqual(areas(disk), before)

    def test_a_long_run_with_falls(self):
        disk = Disk()
        opened(disk)
        items = []
        for step in range(200):
            most = step * 37 % 130
            if step % 9 == 8:
                newer = items[-3:] + [step]
                whole = kept(disk.copy(), tuple(newer), None)
                many = kept(disk, tuple(newer), most)
            else:
                newer = items + [step]
                whole = noted(disk.copy(), step, None)
                many = noted(disk, step, most)
            self.assertEqual(many, min(most, whole))
            items = newer if most >= whole else items
            fresh = disk_of(*areas(disk))
            self.assertEqual(opened(disk), items)
            self.assertEqual(opened(fresh), items)
            self.assertTrue(fresh == disk)


if __name__ == "__main__":
    unittest.main()
