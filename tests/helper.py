"""Values for the tests: whatever point 4 lets a caller pass."""

from knownends import errors
from knownends.disks import Disk
from knownends.texts import check, sealed


def nested(depth, kind):
    """A value of so many tuples, lists or dicts within each other."""
    value = None
    for k in range(depth):
        value = {tuple: (value,), list: [value], dict: {"a": value}}[kind] if k else kind()
    return value


def odd_values():
    """Values of every kind, made anew by each call."""
    values = [0, 1, -1, 10 ** 30 - 1, -(10 ** 30 - 1), True, False, None, "", "a", "pour", "\n", "~", "'", ".", "()"]
    values += ["a" * 20000, "\n" * 20000, "(" * 20000, "9" * 20000, "'" * 20000, "~" * 20000, "#" * 20000]
    values += ["'" + "~~" * 9999, "(" + "1," * 9999, "-" * 20000]
    values += [(), [], {}, ((),), ([],), [()], ({},), (None,), (True,), ("a", 1), (("a", 1),), [("a", 1)]]
    values += [("stream", ()), (("stream", ()),), [["stream", []]], (("stream", ["a"]),), (("pour",),), ("pour",)]
    values += [{"stream": ()}, {0: "a"}, {("a", 1): 2}, ("a",) * 5000, [None] * 5000, (("pour",),) * 5000]
    for kind in (tuple, list, dict):
        values += [nested(depth, kind) for depth in (2, 29, 30)]
    values += [errors.NoTree(), errors.BadText(3), errors.TooMany([1]), (errors.BadSheet(None),), Disk(), (Disk(),)]
    values += [("count", ["a"]), (1, 0, 0, []), [1, 0, 0, ()], (1, 0, 0, (("a", 0),)), ("unlike", 1), (None,) * 4]
    return values


def text_of(*entries):
    """The lines of these entries, each with the check of all ahead."""
    text = ""
    for entry in entries:
        text += sealed((check(text), entry)) + "\n"
    return text
