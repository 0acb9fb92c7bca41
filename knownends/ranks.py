"""Rank sketches of streams of fractions: a few marks, each with bounds of how many items are below and up to it."""

from knownends.errors import NoMarks, NoNumber, NoNumbers, NoPlace, NoRanks, NoRoom, NoTree, OtherRoom
from knownends.kinds import is_int, is_number, is_room
from knownends.ratios import (
    are_numbers, ascending, is_at, is_fraction, is_less, is_number_tree, is_place, items_of,
)

MOST_NUMBERS = 20000


def is_ranks(thing):
    """Whether it is a tuple (room, many, marks) of the form of a rank sketch."""
    if not isinstance(thing, tuple) or len(thing) != 3:
        return False
    room, many, marks = thing
    return is_room(room) and _are_marks(many, marks) and len(marks) <= room


def _are_marks(many, marks):
    """Whether these are marks, any number of them, of so many items."""
    if not is_number(many) or not isinstance(marks, tuple):
        return False
    if not all([_is_mark(many, mark) for mark in marks]):
        return False
    return all([_may_follow(one, other) for one, other in zip(marks, marks[1:])])


def _is_mark(many, mark):
    """Whether it is a fraction with bounds that can be those of so many items, this fraction among them."""
    if not isinstance(mark, tuple) or len(mark) != 5 or not is_fraction(mark[0]):
        return False
    if not all([is_int(bound) for bound in mark[1:]]):
        return False
    _, a, b, c, d = mark
    return 0 <= a < c <= many and a <= b < d <= many and c <= d


def _may_follow(one, other):
    """Whether the one mark may stand directly ahead of the other."""
    return is_less(one[0], other[0]) and one[3] <= other[1] and one[4] <= other[2]


def bare_ranks(room):
    """The rank sketch of no items."""
    if not is_room(room):
        raise NoRoom()
    return (room, 0, ())


def thinned(room, many, marks):
    """The rank sketch with these marks, or with room of them at most, so that it is as little open as can be."""
    if not is_room(room):
        raise NoRoom()
    if not _are_marks(many, marks):
        raise NoMarks()
    return _thin(room, many, marks)


def _thin(room, many, marks):
    """What thinned tells of marks that are right."""
    if len(marks) <= room:
        return (room, many, tuple(marks))
    # With no mark at all it is as open as many; low is always too little.
    low = -1
    high = many
    while high - low > 1:
        middle = (low + high) // 2
        if _chosen(room, many, marks, middle) is None:
            low = middle
        else:
            high = middle
    return (room, many, tuple(_chosen(room, many, marks, high)))


def _chosen(room, many, marks, gap):
    """The list of the farthest marks that leave no more open than this gap; None if more than room were needed.

    What is open between two marks is the b of the later one less the c of the earlier one, and nothing at a mark
    itself is more open than that. Both b and c ascend, so the farthest mark is always the best one.
    """
    found = []
    level = 0
    at = 0
    while many - level > gap:
        first = at
        while at < len(marks) and marks[at][2] - level <= gap:
            at += 1
        if at == first or len(found) == room:
            return None
        found.append(marks[at - 1])
        level = marks[at - 1][3]
    return found


def ranks_of(room, numbers):
    """The rank sketch of a number stream."""
    if not is_room(room):
        raise NoRoom()
    if not are_numbers(numbers) or len(numbers) > MOST_NUMBERS:
        raise NoNumbers()
    return _ranks_of(room, numbers)


def _ranks_of(room, numbers):
    """The rank sketch of a number stream, however long."""
    counts = {}
    for value in numbers:
        counts[value] = counts.get(value, 0) + 1
    marks = []
    below = 0
    for value in ascending(list(counts)):
        up_to = below + counts[value]
        marks.append((value, below, below, up_to, up_to))
        below = up_to
    return _thin(room, len(numbers), marks)


def poured_ranks(one, other):
    """The rank sketch of two rank sketches of one room, poured together."""
    if not is_ranks(one) or not is_ranks(other):
        raise NoRanks()
    if one[0] != other[0]:
        raise OtherRoom()
    return _pour(one, other)


def _pour(one, other):
    """What poured_ranks tells of rank sketches that are right."""
    room, many, marks = one
    values = ascending([mark[0] for mark in marks + other[2]])
    sums = []
    for value, bounds, others in zip(values, _bounds_at(one, values), _bounds_at(other, values)):
        sums.append((value, *[bound + beside for bound, beside in zip(bounds, others)]))
    return _thin(room, many + other[1], sums)


def _bounds_at(ranks, values):
    """For each of some ascending values, those of all marks among them, the bounds (a, b, c, d) of a mark there."""
    _, many, marks = ranks
    told = []
    at = 0
    low = 0
    for value in values:
        if at < len(marks) and marks[at][0] == value:
            told.append(marks[at][1:])
            low = marks[at][3]
            at += 1
        else:
            high = marks[at][2] if at < len(marks) else many
            told.append((low, high, low, high))
    return told


def nodes_of(room, tree):
    """For each step of a number tree the rank sketch that it leaves on the pile, and the steps whose ones it poured."""
    nodes = []
    pile = []
    for at, step in enumerate(tree):
        if step[0] == "numbers":
            nodes.append((_ranks_of(room, step[1]), ()))
        else:
            above = pile.pop()
            under = pile.pop()
            nodes.append((_pour(nodes[under][0], nodes[above][0]), (under, above)))
        pile.append(at)
    return nodes


def ranks_tree(room, tree):
    """The rank sketch to which a number tree leads."""
    if not is_room(room):
        raise NoRoom()
    if not is_number_tree(tree):
        raise NoTree()
    return nodes_of(room, tree)[-1][0]


def ends_at(ranks, place):
    """The least and the greatest number of items that can be at a place."""
    if not is_ranks(ranks):
        raise NoRanks()
    if not is_place(place):
        raise NoPlace()
    _, many, marks = ranks
    value, side = place
    low = 0
    for mark in marks:
        if mark[0] == value:
            return (mark[3], mark[4]) if side == 1 else (mark[1], mark[2])
        if is_less(value, mark[0]):
            return low, mark[2]
        low = mark[3]
    return low, many


def openness(ranks):
    """The greatest difference of the ends of a place."""
    if not is_ranks(ranks):
        raise NoRanks()
    _, many, marks = ranks
    # Beside a mark it is never less open than at the mark.
    lows = [0] + [mark[3] for mark in marks]
    highs = [mark[2] for mark in marks] + [many]
    return max([high - low for low, high in zip(lows, highs)])


def item_ends(ranks, index):
    """The least and the greatest fraction that the item with this index can be, None where no mark tells."""
    if not is_ranks(ranks):
        raise NoRanks()
    _, many, marks = ranks
    if not is_number(index) or index >= many:
        raise NoNumber()
    lows = [mark[0] for mark in marks if mark[2] <= index]
    highs = [mark[0] for mark in marks if mark[3] > index]
    return (lows[-1] if lows else None), (highs[0] if highs else None)


def rank_at(tree, place):
    """How many items of a number tree are at a place."""
    if not is_number_tree(tree):
        raise NoTree()
    if not is_place(place):
        raise NoPlace()
    return len([item for item in items_of(tree) if is_at(item, place)])
