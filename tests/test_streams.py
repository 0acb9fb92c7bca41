"""Point 6: names, streams, trees, counts."""

import unittest

from knownends.errors import NoTree
from knownends.streams import are_counts, counts_of, is_name, is_tree
from tests.helper import odd_values

POUR = ("pour",)


def put(*names):
    """The step that puts a stream of these names on the pile."""
    return ("stream", names)


TREES = [
    (put(),),
    (put("a"),),
    (put("b", "a", "b"),),
    (put("a"), put("b"), POUR),
    (put("a"), put(), put("zzzzzzzz"), POUR, POUR),
    (put("a"), put("b"), POUR, put("a"), POUR),
    (put("pour"), put("stream"), POUR),
]

NO_TREES = [
    (),
    put("a"),
    (POUR,),
    (put("a"), POUR),
    (POUR, put("a")),
    (put("a"), put("b")),
    (put("a"), put("b"), POUR, POUR),
    (put("a"), POUR, put("b"), POUR),
    (put("a"), POUR, put("b")),
    (put("a"), put("b"), put("c"), POUR),
    (put("a"), put("b"), POUR, put("c")),
    [put("a")],
    (["stream", ("a",)],),
    (("stream", ["a"]),),
    (put("a"), put("b"), ["pour"]),
    (put("a"), put("b"), "pour"),
    (put("a"), put("b"), ("pour", ())),
    (put("a"), put("b"), ()),
    (put("a"), put("b"), ("pours",)),
    (put("a"), put("b"), (None,)),
    (put("a"), ("drop",)),
    (("stream",),),
    (("stream", ("a",), ("b",)),),
    (("streams", ("a",)),),
    (("numbers", ("a",)),),
    (("stream", "a"),),
    (("stream", None),),
    (("stream", True),),
    (("stream", {"a": 1}),),
    ((True, ("a",)),),
    ((None, ("a",)),),
    ((("stream",), ("a",)),),
    (put(""),),
    (put("A"),),
    (put("a", "abcdefghi"),),
    (put("a", 1),),
    (put("a", True),),
    (put("a", None),),
    (put("a", ("b",)),),
    (None,),
    (True,),
    ("stream", ("a",)),
]


class TestNames(unittest.TestCase):
    def test_one_to_eight_letters(self):
        for thing in ["a", "z", "ab", "zz", "abcdefgh", "zzzzzzzz", "pour"]:
            self.assertIs(is_name(thing), True, thing)

    def test_no_letter_or_too_many(self):
        for thing in ["", "abcdefghi", "a" * 9, "a" * 20000]:
            self.assertIs(is_name(thing), False, thing[:10])

    def test_other_signs(self):
        for thing in ["A", "aB", "Ab", "a1", "1", "a b", " a", "a ", "a\n", "\n", "a_b", "a-b", "`", "{", "a~", "'a'"]:
            self.assertIs(is_name(thing), False, thing)

    def test_no_strings(self):
        for thing in [None, True, False, 0, 1, ("a",), ["a"], {"a": "a"}, (), [], {}]:
            self.assertIs(is_name(thing), False, repr(thing))


class TestTrees(unittest.TestCase):
    def test_trees(self):
        for tree in TREES:
            self.assertIs(is_tree(tree), True, repr(tree))

    def test_no_trees(self):
        for thing in NO_TREES:
            self.assertIs(is_tree(thing), False, repr(thing))

    def test_a_step_left_out_or_too_many(self):
        tree = (put("a"), put("b"), put("c"), POUR, put("d"), POUR, POUR)
        self.assertIs(is_tree(tree), True)
        for place in range(len(tree)):
            self.assertIs(is_tree(tree[:place] + tree[place + 1:]), False)
            self.assertIs(is_tree(tree[:place] + (POUR,) + tree[place:]), False)
            self.assertIs(is_tree(tree[:place] + (put("e"),) + tree[place:]), False)

    def test_how_many_steps(self):
        # Each tree has one pour less than streams, so 4999 steps are the most that a tree can have.
        self.assertIs(is_tree((put("a"),) * 2500 + (POUR,) * 2499), True)
        self.assertIs(is_tree((put("a"),) * 2500 + (POUR,) * 2500), False)
        self.assertIs(is_tree((put("a"),) * 2501 + (POUR,) * 2499), False)
        self.assertIs(is_tree((put("a"),) * 2501 + (POUR,) * 2500), False)
        self.assertIs(is_tree((put(),) + (put(), POUR) * 2499), True)
        self.assertIs(is_tree((put(),) + (put(), POUR) * 2500), False)

    def test_how_many_items(self):
        names = ("a", "b") * 25000
        self.assertIs(is_tree((put(*names),)), True)
        self.assertIs(is_tree((put(*names, "c"),)), False)
        self.assertIs(is_tree((put(*names[:30000]), put(*names[30000:]), POUR)), True)
        self.assertIs(is_tree((put(*names[:30000]), put(*names[30000:]), put("a"), POUR, POUR)), False)
        self.assertIs(is_tree((put(*names), put(), POUR)), True)

    def test_odd_values(self):
        for thing in odd_values():
            self.assertIs(is_tree(thing), thing == (put(),))


class TestCountsOf(unittest.TestCase):
    def test_counts(self):
        self.assertEqual(counts_of((put(),)), ())
        self.assertEqual(counts_of((put("b", "a", "b"),)), (("a", 1), ("b", 2)))
        self.assertEqual(counts_of((put("b", "ab"), put("b", "a"), POUR)), (("a", 1), ("ab", 1), ("b", 2)))
        self.assertEqual(counts_of((put("c"), put(), put("c", "a"), POUR, POUR)), (("a", 1), ("c", 2)))
        self.assertEqual(counts_of((put("pour"), put("stream"), POUR)), (("pour", 1), ("stream", 1)))
        self.assertEqual(counts_of((put(*("b", "a") * 25000),)), (("a", 25000), ("b", 25000)))

    def test_what_it_tells_are_counts(self):
        for tree in TREES:
            told = counts_of(tree)
            self.assertIs(are_counts(told), True)
            self.assertEqual(sum(count for _, count in told), sum(len(step[1]) for step in tree if step != POUR))

    def test_no_tree_just_for_what_is_none(self):
        for thing in [*NO_TREES, *odd_values()]:
            if not is_tree(thing):
                with self.subTest(repr(thing)[:50]), self.assertRaises(NoTree):
                    counts_of(thing)
        with self.assertRaises(NoTree):
            counts_of((put(*("a",) * 50001),))
        with self.assertRaises(NoTree):
            counts_of((put(),) * 2501 + (POUR,) * 2500)


class TestAreCounts(unittest.TestCase):
    def test_counts(self):
        long = tuple(sorted(("".join((a, b)), 1) for a in "abcdefghijkl" for b in "abcdefghijkl"))
        for thing in [(), (("a", 1),), (("a", 2), ("b", 1)), (("a", 1), ("aa", 1), ("b", 10 ** 29)), long]:
            self.assertIs(are_counts(thing), True, repr(thing))

    def test_no_counts(self):
        wrong = [
            (("a", 1), ("a", 1)), (("a", 1), ("a", 2)), (("b", 1), ("a", 1)), (("a", 1), ("c", 1), ("b", 1)),
            (("aa", 1), ("a", 1)), (("a", 0),), (("a", -1),), (("a", True),), (("a", False),), (("a", None),),
            (("a", "1"),), (("a", (1,)),), (("A", 1),), (("", 1),), (("abcdefghi", 1),), ((1, 1),), ((None, 1),),
            (("a",),), (("a", 1, 1),), ((),), ("a", 1), ("a1",), (["a", 1],), [("a", 1)], [], {"a": 1}, {},
            None, True, False, 0, "", "a", (None,), (("a", 1), None), (("a", 1), ["b", 1]), (("a", 1), ("b", 0)),
        ]
        for thing in wrong:
            self.assertIs(are_counts(thing), False, repr(thing))


if __name__ == "__main__":
    unittest.main()
