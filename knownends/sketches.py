"""Sketches of streams: a few names with counts, fed item by item, and poured together."""

from knownends.errors import NoName, NoNumber, NoRoom, NoSketch, NoTree, OtherRoom
from knownends.kinds import is_number, is_room
from knownends.streams import are_counts, is_name, is_tree
from knownends.tallies import Tally


def lost_of(sketch):
    """How many items a sketch has seen that its kept counts do not tell."""
    return sketch[1] - sum([count for _, count in sketch[3]])


def is_sketch(thing):
    """Whether it is a tuple (room, many, off, kept) to which some tree leads."""
    if not isinstance(thing, tuple) or len(thing) != 4:
        return False
    room, many, off, kept = thing
    if not is_room(room) or not is_number(many) or not is_number(off):
        return False
    if not are_counts(kept) or len(kept) > room:
        return False
    return (room + 1) * off <= lost_of(thing) <= 2 * room * off


def bare(room):
    """The sketch of no items."""
    if not is_room(room):
        raise NoRoom()
    return (room, 0, 0, ())


def fed(sketch, name):
    """The sketch with one item more."""
    return fed_many(sketch, name, 1)


def fed_many(sketch, name, times):
    """The sketch with so many items of one name more."""
    if not is_sketch(sketch):
        raise NoSketch()
    if not is_name(name):
        raise NoName()
    if not is_number(times):
        raise NoNumber()
    tally = Tally(sketch)
    tally.gain(name, times)
    return tally.sketch()


def need_two(one, other):
    """Raises NoSketch unless both are sketches, then OtherRoom unless their rooms are alike."""
    if not is_sketch(one) or not is_sketch(other):
        raise NoSketch()
    if one[0] != other[0]:
        raise OtherRoom()


def poured(one, other):
    """The sketch of two sketches of one room, poured together."""
    need_two(one, other)
    tally = Tally(one)
    tally.pour(other)
    return tally.sketch()


def sketch_of(room, tree):
    """The sketch to which a tree leads."""
    if not is_room(room):
        raise NoRoom()
    if not is_tree(tree):
        raise NoTree()
    pile = []
    for step in tree:
        if step[0] == "stream":
            tally = Tally(bare(room))
            for name in step[1]:
                tally.gain(name, 1)
            pile.append(tally)
        else:
            above = pile.pop()
            pile[-1].pour(above.sketch())
    return pile[0].sketch()
