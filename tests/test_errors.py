"""Point 5, and the interface's list of knownends/errors.py."""

import unittest

from knownends import errors

PLAIN = (
    "NoTree NoRoom NoSketch NoName NoNumber OtherRoom NoSpace NoSketches NoRanks NoPlace NoMarks NoNumbers NoSide "
    "NoBook NoEvent NoArea NoText NoStand NoThing NoItems NoQuestion NoDay NoTruth NoCounts"
).split()
FIELDS = {"BadText": "place", "BadSheet": "line", "TooMany": "most"}


class TestErrors(unittest.TestCase):
    def test_known_error_is_a_value_error(self):
        self.assertEqual(errors.KnownError.__bases__, (ValueError,))

    def test_all_others_are_direct_subclasses_and_of_nothing_else(self):
        for word in [*PLAIN, *FIELDS]:
            with self.subTest(word):
                kind = getattr(errors, word)
                self.assertEqual(kind.__bases__, (errors.KnownError,))
                self.assertEqual(kind.__module__, "knownends.errors")
                self.assertEqual(kind.__name__, word)

    def test_there_are_just_these(self):
        told = [word for word in vars(errors) if isinstance(getattr(errors, word), type)]
        self.assertEqual(sorted(told), sorted(["KnownError", *PLAIN, *FIELDS]))

    def test_an_object_is_of_no_other_class_of_the_package(self):
        kinds = [getattr(errors, word) for word in [*PLAIN, *FIELDS]]
        for kind in kinds:
            error = kind(0) if kind.__name__ in FIELDS else kind()
            self.assertIsInstance(error, errors.KnownError)
            self.assertIsInstance(error, ValueError)
            self.assertEqual([other for other in kinds if isinstance(error, other)], [kind])

    def test_without_fields_they_take_no_arguments(self):
        for word in PLAIN:
            with self.subTest(word), self.assertRaises(getattr(errors, word)):
                raise getattr(errors, word)()

    def test_a_field_keeps_any_value(self):
        kept = [0, -1, True, None, "", "a\n", (), [1, [2]], {"a": {}}, errors.NoTree(), 10 ** 5000]
        for word, field in FIELDS.items():
            for value in kept:
                error = getattr(errors, word)(value)
                self.assertIs(getattr(error, field), value)
                self.assertEqual([name for name in FIELDS.values() if hasattr(error, name)], [field])

    def test_each_is_caught_as_what_it_is(self):
        for word in [*PLAIN, *FIELDS]:
            for kind in (getattr(errors, word), errors.KnownError, ValueError):
                value = [{"a": [word]}]
                with self.assertRaises(kind) as caught:
                    raise getattr(errors, word)(*[value] * (word in FIELDS))
                self.assertEqual(vars(caught.exception), {FIELDS[word]: [{"a": [word]}]} if word in FIELDS else {})

    def test_a_field_takes_just_one_argument(self):
        for word in FIELDS:
            with self.assertRaises(TypeError):
                getattr(errors, word)()
            with self.assertRaises(TypeError):
                getattr(errors, word)(1, 2)

    def test_what_is_done_later_to_a_list_shows_in_the_error(self):
        items = [1]
        error = errors.TooMany(items)
        items.append(2)
        self.assertEqual(error.most, [1, 2])


if __name__ == "__main__":
    unittest.main()
