"""Point 17: questions as texts, and sheets."""

import random
import unittest

from knownends.errors import BadSheet, NoQuestion, NoText
from knownends.questions import ends, is_question, perhaps_above, perhaps_first, surely_above, surely_first
from knownends.sheets import question_text, read_question, run_sheet
from knownends.sketches import bare, fed, fed_many, poured
from tests.helper import odd_values

LETTERS = tuple("abcdefghijklmnopqrstuvwxyz")
MANY = tuple(first + second for first in "ab" for second in LETTERS)[:41]
QUESTIONS = {
    "count a": ("count", "a"), "count abcdefgh": ("count", "abcdefgh"), "lot": ("lot", ()), "lot a": ("lot", ("a",)),
    "lot a ab b": ("lot", ("a", "ab", "b")), "apart b a": ("apart", "b", "a"), "apart a b": ("apart", "a", "b"),
    "place z": ("place", "z"), "first 1": ("first", 1), "first 9": ("first", 9), "first 10": ("first", 10),
    "first 40": ("first", 40), "unlike": ("unlike",), "squares": ("squares",), "count count": ("count", "count"),
    "lot lot": ("lot", ("lot",)), "place unlike": ("place", "unlike"),
    " ".join(["lot", *MANY[:40]]): ("lot", MANY[:40]),
}
NO_QUESTIONS = [
    "", " ", "count", "count ", " count a", "count  a", "count a ", "count a b", "count A", "count abcdefghi",
    "Count a",
    "count a\n", "\ncount a", "count\na", "lot ", "lot  a", "lot b a", "lot a a", "lot a A", "lot a,b", "apart a",
    "apart a a", "apart a b c", "apart  a b", "apart", "place", "place 1", "place a b", "first", "first 0", "first 41",
    "first 01", "first 1 2", "first a", "first -1", "first +1", "first 1.", "first ", "first  1", "first 1 ",
    "first " + "1" * 5000, "first 9999999999999", "unlike a", "unlike ", " unlike", "Unlike", "squares 1", "squares\n",
    "unlike\n", "square", "('unlike',)", "unlike squares", " ".join(["lot", *MANY]),
]

# Lines ahead of a wrong one: x of room 2 has something, y of room 2 too, and w is of another room.
AHEAD = "sketch x 2\nfeed x a b c a\nsketch y 2\ntimes y d 3\nsketch w 3"
WRONG = [
    "", " ", "x", "sketch", "sketch x", "sketch x 0", "sketch x 65", "sketch x 01", "sketch x 1 1", "sketch X 1",
    "sketch x -1", "sketch x a", "sketch x 1.", "sketch abcdefghi 1", "sketch x1 1", "sketch  x 1", "sketch x  1",
    "sketch x 1 ", " sketch x 1", "Sketch x 1", "SKETCH x 1", "sketch 1 x", "sketch x 1000000000000",
    "sketch x " + "1" * 5000,
    "feed", "feed x", "feed x ", "feed x A", "feed x a ", "feed x  a", "feed x a  b", "feed q a", "feed x a 1",
    "feed x abcdefghi", "feed  x a", "feeds x a", "feed x a,b", "FEED x a", "feed X a",
    "times", "times x", "times x a", "times x a -1", "times x a 01", "times x a 00", "times x a 1000000000000",
    "times x a 0000000000001", "times q a 1", "times x A 1", "times x 1 a", "times x a 1 ", "times x a  1",
    "times x a b",
    "times x a 1 1", "times x a +1", "times x a 1.0", "times x a " + "9" * 5000,
    "pour", "pour x", "pour x y", "pour x y q", "pour x q y", "pour z q q", "pour x x w", "pour z w x", "pour x y y y",
    "pour X x y", "pour x x y ", "pour  x x y", "pour 1 x y", "pour abcdefghi x y", "Pour x x y",
    "ask", "ask x", "ask x ", "ask q unlike", "ask unlike", "ask x unlike ", "ask x  unlike", "ask x unlike a",
    "ask x first",
    "ask x first 0", "ask x first 41", "ask x first 01", "ask x lot b a", "ask x apart a a", "ask x count A",
    "ask x Unlike",
    "ask x ('unlike',)", " ask x unlike", "ask x count", "asks x unlike",
    "above", "above x", "above x -1", "above x 01", "above x a", "above q 1", "above x 1 1", "above x 1 ", "above x  1",
    "above x 1000000000000", "above 1 x", "above x 1.", "Above x 1", "above x " + "1" * 5000,
    "first", "first q", "first x ", "first  x", "first x 1", "first x x", "First x", " first x", "first 1",
    "x x", "count x a", "unlike", "#", "sketch\tx\t1", "sketch x 1\t", "sketch x \u0661",
]


def after(*lines):
    """What a sheet of these lines tells."""
    return run_sheet("\n".join(lines))


class TestQuestions(unittest.TestCase):
    def test_both_ways(self):
        for text, question in QUESTIONS.items():
            self.assertIs(is_question(question), True)
            self.assertEqual(question_text(question), text)
            self.assertEqual(read_question(text), question)

    def test_texts_of_no_question(self):
        for text in NO_QUESTIONS:
            self.assertIs(read_question(text), None, repr(text)[:60])

    def test_one_sign_beside(self):
        for text in list(QUESTIONS)[:-1]:
            for at in range(len(text) + 1):
                for sign in ("", " ", "a", "0", "1", "\n", "~", "A"):
                    for near in (text[:at] + sign + text[at:], text[:at] + sign + text[at + 1:]):
                        told = read_question(near)
                        if told is not None:
                            self.assertEqual(question_text(told), near)

    def test_other_values(self):
        for value in [*odd_values(), *QUESTIONS.values(), ["unlike"], b"unlike"]:
            self.assertIs(read_question(value), None)
        wrong = [("lot", ["a"]), ["unlike"], "unlike", ("first", True), ("first", "1"), ("lot", "a"), ("lot",)]
        for value in [*odd_values(), *wrong, ("unlike", ())]:
            self.assertRaises(NoQuestion, question_text, value)


class TestSheets(unittest.TestCase):
    def test_no_lines(self):
        self.assertEqual(run_sheet(""), [])
        self.assertEqual(run_sheet("sketch x 1"), [])
        self.assertEqual(run_sheet("sketch x 64\nfeed x a\ntimes x b 0\npour y x x"), [])

    def test_ask(self):
        sketch = fed_many(bare(2), "a", 5)
        for name in "bcb":
            sketch = fed(sketch, name)
        for text, question in QUESTIONS.items():
            low, high = ends(sketch, question)
            self.assertEqual(after("sketch x 2", "times x a 5", "feed x b c b", "ask x " + text), [f"{low} {high}"])
        self.assertEqual(after("sketch x 2", "feed x a b c", "ask x apart a b"), ["-1 1"])

    def test_times(self):
        told = after("sketch x 1", "times x a 999999999999", "times x a 999999999999", "ask x count a", "ask x squares")
        self.assertEqual(told, ["1999999999998 1999999999998", f"{1999999999998 ** 2} {1999999999998 ** 2}"])
        self.assertEqual(after("sketch x 1", "times x a 0", "ask x unlike"), ["0 0"])
        told = after("sketch x 1", "times x a 7", "times x b 3", "ask x count a", "ask x count b")
        self.assertEqual(told, ["4 7", "0 3"])

    def test_pour(self):
        one, other = fed_many(fed(bare(2), "a"), "b", 4), fed_many(fed(bare(2), "c"), "b", 2)
        ahead = ["sketch x 2", "feed x a", "times x b 4", "sketch y 2", "feed y c b b"]
        for line, sketch in (
            ("pour z x y", poured(one, other)), ("pour z y x", poured(other, one)), ("pour z x x", poured(one, one)),
        ):
            for question in ("count b", "unlike", "squares", "first 2"):
                low, high = ends(sketch, read_question(question))
                self.assertEqual(after(*ahead, line, "ask z " + question), [f"{low} {high}"])
        told = after(*ahead, "pour x x x", "ask x count b", "ask y count b", "pour x x y", "ask x count b")
        self.assertEqual(told, ["8 8", "2 2", "9 10"])
        told = after(*ahead, "pour z x y", "feed x b", "ask z count b", "ask x count b")
        self.assertEqual(told, ["5 6", "5 5"])

    def test_made_anew(self):
        self.assertEqual(after("sketch x 1", "feed x a b", "sketch x 3", "feed x a b", "ask x unlike"), ["2 2"])

    def test_names_of_sketches_and_items_are_apart(self):
        told = after("sketch sketch 2", "feed sketch sketch feed", "ask sketch count sketch", "first sketch")
        self.assertEqual(told, ["1 1", "/ feed sketch"])

    def test_above_listed(self):
        ahead = ["sketch x 2", "times x a 9", "times x b 4", "times x c 3"]
        told = after(*ahead, *[f"above x {most}" for most in (0, 1, 2, 3, 4, 5, 6, 8, 9)])
        self.assertEqual(told, [
            "a b / a b *", "a / a b *", "a / a b *", "a / a b", "a / a", "a / a", "/ a", "/ a", "/",
        ])
        self.assertEqual(after("sketch x 2", "above x 0"), ["/"])
        self.assertEqual(after("sketch x 1", "feed x a b", "above x 0", "above x 1"), ["/ *", "/"])
        self.assertEqual(after("sketch x 2", "feed x a", "above x 999999999999"), ["/"])

    def test_first_listed(self):
        self.assertEqual(after("sketch x 2", "first x"), ["/"])
        self.assertEqual(after("sketch x 2", "feed x a", "first x"), ["a / a"])
        self.assertEqual(after("sketch x 2", "feed x a b", "first x"), ["/ a b"])
        self.assertEqual(after("sketch x 2", "feed x a b c", "first x"), ["/ *"])
        self.assertEqual(after("sketch x 2", "feed x a b c a a", "first x"), ["a / a"])
        self.assertEqual(after("sketch x 2", "feed x a b c a", "first x"), ["/ a *"])

    def test_drawn(self):
        rng = random.Random(35)
        for _ in range(150):
            sketches, rows, told = {}, [], []
            for _ in range(25):
                x, y, z, name = (rng.choice("xyz"), rng.choice("xyz"), rng.choice("xyz"), rng.choice("abcdef"))
                word = rng.choice(["sketch", "feed", "feed", "feed", "times", "pour", "ask", "above", "first"])
                number = rng.randint(0, 4)
                if word == "sketch" or x not in sketches:
                    room = rng.choice([1, 2, 2, 2])
                    rows.append(f"sketch {x} {room}")
                    sketches[x] = bare(room)
                elif word == "feed":
                    names = [rng.choice("abcdef") for _ in range(rng.randint(1, 5))]
                    rows.append(" ".join(["feed", x, *names]))
                    for item in names:
                        sketches[x] = fed(sketches[x], item)
                elif word == "times":
                    rows.append(f"times {x} {name} {number}")
                    sketches[x] = fed_many(sketches[x], name, number)
                elif word == "pour":
                    if y in sketches and z in sketches and sketches[y][0] == sketches[z][0]:
                        rows.append(f"pour {x} {y} {z}")
                        sketches[x] = poured(sketches[y], sketches[z])
                elif word == "ask":
                    text = rng.choice(list(QUESTIONS))
                    rows.append(f"ask {x} {text}")
                    low, high = ends(sketches[x], QUESTIONS[text])
                    told.append(f"{low} {high}")
                elif word == "above":
                    rows.append(f"above {x} {number}")
                    told.append(self.line(surely_above(sketches[x], number), *perhaps_above(sketches[x], number)))
                else:
                    rows.append(f"first {x}")
                    sure = surely_first(sketches[x])
                    told.append(self.line(() if sure is None else (sure,), *perhaps_first(sketches[x])))
            self.assertEqual(after(*rows), told)

    def line(self, surely, names, is_other):
        """The line of names."""
        return " ".join([*surely, "/", *names, *["*"] * is_other])

    def bad(self, text, line):
        """This line is the first bad one of a text."""
        with self.assertRaises(BadSheet) as caught:
            run_sheet(text)
        self.assertEqual(caught.exception.line, line, repr(text)[:80])

    def test_wrong_lines(self):
        self.assertEqual(run_sheet(AHEAD), [])
        for wrong in WRONG:
            self.bad(AHEAD + "\n" + wrong, 6)
            self.bad(AHEAD + "\nask x unlike\n" + wrong + "\n" + wrong, 7)
            if wrong:
                self.bad(wrong, 1)
                self.bad(wrong + "\n" + AHEAD, 1)

    def test_line_feeds(self):
        self.bad("\n", 1)
        self.bad("sketch x 1\n", 2)
        self.bad("\nsketch x 1", 1)
        self.bad("sketch x 1\n\nfeed x a", 2)
        self.bad("sketch x 1\r\nfeed x a", 1)

    def test_sketches_that_are_not_there_yet(self):
        self.bad("feed x a\nsketch x 1", 1)
        self.bad("sketch x 1\nfeed y a\nsketch y 1", 2)
        self.bad("sketch x 1\npour y x z\nsketch z 1", 2)
        self.bad("sketch x 1\nsketch y 1\npour z x y\nfirst z\nsketch y 2\npour z x y", 6)

    def test_every_room(self):
        for room in range(65):
            if room > 0:
                self.assertEqual(after(f"sketch x {room}", "feed x a", "ask x unlike"), ["1 1"])
            self.bad(f"sketch x 0{room}", 1)

    def test_other_values(self):
        for value in odd_values():
            if isinstance(value, str):
                if value:
                    self.bad(value, 1)
            else:
                self.assertRaises(NoText, run_sheet, value)


if __name__ == "__main__":
    unittest.main()
