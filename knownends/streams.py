"""Names, streams of them, trees of streams that are poured together, and counts."""

from knownends.errors import NoTree
from knownends.kinds import is_int

LONGEST_NAME = 8
MOST_STEPS = 5000
MOST_ITEMS = 50000


def is_name(thing):
    """Whether it is a string of 1 to 8 letters a to z."""
    if not isinstance(thing, str) or not 1 <= len(thing) <= LONGEST_NAME:
        return False
    return all(["a" <= letter <= "z" for letter in thing])


def is_stream(thing):
    """Whether it is a tuple of names."""
    return isinstance(thing, tuple) and all([is_name(item) for item in thing])


def is_tree(thing):
    """Whether it is a tuple of steps that can be done and leave just one on the pile."""
    return is_tree_of(thing, "stream", is_stream)


def is_tree_of(thing, word, is_right):
    """Whether it is a tree whose streams are put on the pile by this word, and are right ones."""
    if not isinstance(thing, tuple) or len(thing) > MOST_STEPS:
        return False
    many = 0
    height = 0
    for step in thing:
        if _is_put(step, word) and is_right(step[1]):
            height += 1
            many += len(step[1])
        elif _is_pour(step) and height >= 2:
            height -= 1
        else:
            return False
    return height == 1 and many <= MOST_ITEMS


def _is_put(step, word):
    """Whether a step puts something on the pile by this word."""
    return isinstance(step, tuple) and len(step) == 2 and step[0] == word


def _is_pour(step):
    """Whether a step pours the two uppermost of the pile together."""
    return isinstance(step, tuple) and len(step) == 1 and step[0] == "pour"


def are_counts(thing):
    """Whether it is an ascending tuple of pairs of a name and a count from 1 on, names unlike."""
    if not isinstance(thing, tuple):
        return False
    # The empty string stands ahead of every name.
    last = ""
    for pair in thing:
        if not _is_counted(pair) or pair[0] <= last:
            return False
        last = pair[0]
    return True


def _is_counted(pair):
    """Whether it is a pair of a name and a count from 1 on."""
    if not isinstance(pair, tuple) or len(pair) != 2:
        return False
    return is_name(pair[0]) and is_int(pair[1]) and pair[1] >= 1


def counts_of(tree):
    """How often each name stands in the streams of a tree, as counts."""
    if not is_tree(tree):
        raise NoTree()
    many = {}
    for step in tree:
        if step[0] == "stream":
            for name in step[1]:
                many[name] = many.get(name, 0) + 1
    return tuple(sorted(many.items()))
