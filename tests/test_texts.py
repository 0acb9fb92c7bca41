"""The second part of point 7: things, their texts, checks and seals."""

import itertools
import re
import unittest

from knownends.errors import BadText, NoText, NoThing
from knownends.texts import check, packed, sealed, unpacked, unsealed
from tests.helper import nested, odd_values

SIGNS = "\n" + "".join(chr(number) for number in range(32, 127))

PAIRS = [
    (0, "0"), (7, "7"), (10, "10"), (-1, "-1"), (-120, "-120"),
    (10 ** 30 - 1, "9" * 30), (1 - 10 ** 30, "-" + "9" * 30), (10 ** 29, "1" + "0" * 29),
    (None, "."), ("", "''"), ("a", "'a'"), (" ", "' '"), ("'", "'~''"), ("~", "'~~'"),
    ("~'", "'~~~''"), ("it's", "'it~'s'"), ("a,b", "'a,b'"), ("(.)", "'(.)'"), ("12", "'12'"), ("#", "'#'"),
    (SIGNS[1:], "'" + SIGNS[1:].replace("~", "~~").replace("'", "~'") + "'"),
    ((), "()"), ((1,), "(1)"), ((None,), "(.)"), ((1, -2, 30), "(1,-2,30)"), (((),), "(())"), (((), ()), "((),())"),
    (("a", (None, ("b", 0)), ()), "('a',(.,('b',0)),())"), (("stream", ("a", "b")), "('stream',('a','b'))"),
    (nested(30, tuple), "(" * 30 + ")" * 30), ((1, nested(29, tuple), 2), "(1," + "(" * 29 + ")" * 29 + ",2)"),
    ((1,) * 5000, "(" + "1," * 4999 + "1)"), ("a" * 20000, "'" + "a" * 20000 + "'"),
    ("~" * 20000, "'" + "~" * 40000 + "'"),
]

NO_THINGS = [
    True, False, 10 ** 30, -(10 ** 30), 10 ** 5000, [], [1], {}, {"a": 1},
    "\n", "a\nb", "a\n", "\t", "\x7f", "\x1f", "\xe9",
    (True,), (1, False), ([],), ((), ({},)), (10 ** 30,), ("\n",), (1, (2, ("a\n",))), nested(31, tuple),
    (nested(30, tuple),), (1, nested(30, tuple)), nested(30, list), nested(30, dict), BadText(1), (NoThing(),),
]

PLACES = [
    ("", 0), ("-", 1), ("'", 1), ("'a", 2), ("'~", 2), ("'a~'", 4), ("(", 1), ("((", 2), ("(1", 2), ("(1,", 3),
    ("(()", 3), ("(-", 2), ("('", 2), ("(" * 30, 30), ("(" * 30 + ")" * 29, 59), ("'" + "a" * 20000, 20001),
    ("00", 1), ("01", 1), ("-0", 1), ("-01", 1), ("--1", 1), ("1-", 1), ("+1", 0), (" 1", 0), ("1 ", 1), ("1.", 1),
    ("..", 1), (".1", 1), ("1'", 1), ("''1", 2), ("''''", 2), ("1,", 1), ("1,2", 1), ("1)", 1), (")", 0), (",", 0),
    ("()(", 2), ("()()", 2), ("())", 2), ("(,", 1), ("(,)", 1), ("(1,)", 3), ("(1,,2)", 3), ("(1 ,2)", 2),
    ("(1, 2)", 3), ("(1(", 2), ("(1.)", 2), ("((),)", 4), ("(00)", 2), ("(-0)", 2), ("(1,02)", 4), ("a", 0),
    ("None", 0), ("x'a'", 0), ("'a'b", 3), ("'~a'", 2), ("'a~b", 3), ("'a~~b~ '", 6), ("'a\nb'", 2), ("'~\n'", 2),
    ("\n", 0), ("1\n", 1), ("(1\n)", 2), ("~", 0), ("#", 0), ("1#24", 1), ("[]", 0), ("'\t'", 1), ("'\xe9'", 1),
    ("\u0661", 0), ("1\u0661", 1), ("1" * 31, 30), ("-" + "1" * 31, 31), ("1" * 30 + "x", 30),
    ("(" + "9" * 31 + ")", 31), ("(5," + "9" * 31, 33), ("(" * 31, 30), ("(" * 31 + ")" * 31, 30),
    ("(1," * 30 + "(", 90), ("(" * 30 + ")(", 31), ("(" * 30 + "x", 30), ("(" * 20000, 30), ("9" * 20000, 30),
    ("-" * 20000, 1), ("(" + "1," * 9999, 19999),
]

NO_STRINGS = [None, True, False, 0, 1, -1, (), ("1",), [], ["1"], {}, {"1": 1}, nested(30, list), BadText(0)]


def place_of(text):
    """The place that unpacked tells of a text, None if it tells a thing."""
    try:
        unpacked(text)
    except BadText as error:
        return error.place
    return None


def is_whole(text):
    """Whether a text of a thing, not nested too deep, is there: found by replacing, not by reading from the front."""
    tokens = re.findall(r"'(?:[ -&(-}]|~['~])*'|-?[1-9][0-9]{0,29}|0|\.|[(),]|[\s\S]", text)
    single = re.compile(r"'.*'|-?[1-9][0-9]*|0|\.", re.DOTALL)
    shape = "".join("T" if single.fullmatch(token) else token if token in "()," else "?" for token in tokens)
    longer = ""
    while shape != longer:
        longer, shape = shape, re.sub(r"\((T(,T)*)?\)", "T", shape)
    return shape == "T"


def goes_on(text, known):
    """Whether a text of a thing begins like that, for texts of few tuples."""
    if text not in known:
        tails = [middle + ")" * many for middle in ("", "1", "'", "''") for many in range(6)]
        known[text] = any(is_whole(text + tail) for tail in tails)
    return known[text]


class TestPacked(unittest.TestCase):
    def test_there(self):
        for thing, text in PAIRS:
            self.assertEqual(packed(thing), text)

    def test_and_back(self):
        for thing, text in PAIRS:
            told = unpacked(text)
            self.assertEqual(told, thing)
            self.assertEqual(repr(told), repr(thing))

    def test_no_two_things_have_one_text(self):
        self.assertEqual(len({packed(thing) for thing, _ in PAIRS}), len(PAIRS))
        self.assertNotEqual(packed(1), packed("1"))
        self.assertNotEqual(packed(None), packed("."))
        self.assertNotEqual(packed(("a", "b")), packed(("a','b",)))

    def test_no_things(self):
        for thing in NO_THINGS:
            for pack in (packed, sealed):
                with self.subTest(repr(type(thing))), self.assertRaises(NoThing):
                    pack(thing)

    def test_many_things_there_and_back(self):
        singles = [0, -1, 12, None, "", "'", "~~", "a'~,()."]
        shallow = singles + [tuple(row) for many in range(3) for row in itertools.product(singles, repeat=many)]
        for one, other in itertools.product(shallow, repeat=2):
            thing = (one, (other,))
            self.assertEqual(unpacked(packed(thing)), thing)


class TestUnpacked(unittest.TestCase):
    def test_places(self):
        for text, place in PLACES:
            self.assertEqual(place_of(text), place, repr(text[:50]))

    def test_no_strings(self):
        for text in NO_STRINGS:
            self.assertEqual(place_of(text), -1)

    def test_thirty_deep(self):
        self.assertEqual(unpacked("(" * 30 + "1" + ")" * 30), unpacked("((" * 15 + "1" + "))" * 15))
        self.assertEqual(unpacked("(" * 30 + ")" * 29 + ",())")[1], ())

    def test_all_short_texts(self):
        known = {}
        for many in range(5):
            for row in itertools.product("01-.'~(),x", repeat=many):
                text = "".join(row)
                places = [at for at in range(many) if not goes_on(text[:at + 1], known)]
                expected = None if is_whole(text) else min(places, default=many)
                self.assertEqual(place_of(text), expected, text)
                if expected is None:
                    self.assertEqual(packed(unpacked(text)), text)

    def test_each_sign_behind_each_beginning(self):
        text = "(1,-20,.,'a~'b~~',((),('')))"
        known = {}
        for at in range(len(text)):
            self.assertEqual(place_of(text[:at]), at)
            for sign in SIGNS:
                wrong = not goes_on(text[:at] + sign, known)
                if wrong:
                    self.assertEqual(place_of(text[:at] + sign + text[at + 1:]), at)
                else:
                    self.assertIn(place_of(text[:at] + sign), (at + 1, None))


class TestCheck(unittest.TestCase):
    def test_signs(self):
        self.assertEqual(check(""), 0)
        for number, sign in enumerate(SIGNS):
            self.assertEqual(check(sign), number)
            self.assertEqual(check("\n\n" + sign), number * 3)

    def test_places(self):
        self.assertEqual(check("\n" * 20000), 0)
        self.assertEqual(check(" \n!"), 1 + 0 + 6)
        self.assertEqual(check("!\n~"), 2 + 0 + 285)
        self.assertEqual(check("ab"), 66 + 134)
        self.assertEqual(check("ba"), 67 + 132)

    def test_what_99991_leaves(self):
        self.assertEqual(check("\n" * 3332 + "="), 30 * 3333)
        self.assertEqual(check(" " + "\n" * 3331 + "="), 0)
        self.assertEqual(check("!" + "\n" * 3331 + "="), 1)
        self.assertEqual(check("~" * 20000), 95 * 20000 * 20001 // 2 % 99991)

    def test_no_texts(self):
        for text in ["\t", "a\tb", "\x7f", "\x1f", "\xe9", "\r\n", None, True, False, 0, (), ("a",), ["a"], {"a": 1}]:
            with self.subTest(repr(text)), self.assertRaises(NoText):
                check(text)


class TestSealed(unittest.TestCase):
    def test_there_and_back(self):
        self.assertEqual(sealed(7), "7#24")
        self.assertEqual(sealed(None), ".#15")
        self.assertEqual(sealed(()), "()#29")
        for thing, text in PAIRS:
            told = sealed(thing)
            self.assertEqual(told, text + "#" + str(check(text)))
            self.assertEqual(unsealed(told), (thing,))

    def test_strings_that_look_sealed(self):
        for thing in ["#", "a#1", "'#12", "7#24", ("#", "##"), sealed("7#24")]:
            self.assertEqual(unsealed(sealed(thing)), (thing,))

    def test_any_other_value(self):
        wrong = ["", "#", "#0", "7", "7#", "7#23", "7#024", "7#24 ", " 7#24", "7 #24", "7#24\n", "\n7#24"]
        wrong += ["7#-24", "7#+24", "07#" + str(check("07")), "\n#0", "7##24", "7#24#24"]
        wrong += ["7#24#" + str(check("7#24")), "'a", "(#9"]
        wrong += ["'\n'#" + str(check("'\n'")), "-0#" + str(check("-0")), "1" * 31 + "#" + str(check("1" * 31))]
        wrong += ["7#" + str(24 + 99991), "'\t'#24", "\xe9#1", "7#\u0662\u0664"]
        wrong += ["(" * 31 + ")" * 31 + "#" + str(check("(" * 31 + ")" * 31))]
        for text in [*wrong, *NO_STRINGS, *odd_values()]:
            self.assertEqual(unsealed(text), (), repr(text)[:50])

    def test_what_goes_wrong_on_the_way_is_seen(self):
        things = [0, 7, -1, 12, 1111, 10 ** 29 + 5, None, (), (1,), ("a", 3), "#", "a#1", "~'", "7#24"]
        things += [("'#12", ((), "~~"))]
        for thing in things:
            text = sealed(thing)
            self.assertEqual(unsealed(text[:-1]), ())
            for at in range(len(text)):
                for sign in SIGNS:
                    if sign != text[at]:
                        self.assertEqual(unsealed(text[:at] + sign + text[at + 1:]), ())
                turned = text[:at] + text[at:at + 2][::-1] + text[at + 2:]
                if turned != text:
                    self.assertEqual(unsealed(turned), ())

    def test_long_texts_too(self):
        text = sealed("ab" * 9000)
        for at in range(0, len(text) - 1, 997):
            self.assertEqual(unsealed(text[:at] + "x" + text[at + 1:]), ())
            self.assertEqual(unsealed(text[:at] + text[at + 1] + text[at] + text[at + 2:]), ())


if __name__ == "__main__":
    unittest.main()
