"""Space sketches: a name is kept for each item, at the price of counts that are too great."""

from knownends.errors import NoName, NoRoom, NoSpace
from knownends.kinds import MOST_ROOM, is_int
from knownends.streams import are_counts, is_name


def _is_space_room(thing):
    """Whether it is a room of space sketches: one more than a room of sketches."""
    return is_int(thing) and 2 <= thing <= MOST_ROOM + 1


def is_space(thing):
    """Whether it is a tuple (room, many, kept) of counts of at most room names that sum to many."""
    if not isinstance(thing, tuple) or len(thing) != 3:
        return False
    room, many, kept = thing
    if not _is_space_room(room) or not is_int(many) or not are_counts(kept):
        return False
    return len(kept) <= room and many == sum([count for _, count in kept])


def bare_space(room):
    """The space sketch of no items."""
    if not _is_space_room(room):
        raise NoRoom()
    return (room, 0, ())


def fed_space(space, name):
    """The space sketch with one item more."""
    if not is_space(space):
        raise NoSpace()
    if not is_name(name):
        raise NoName()
    room, many, kept = space
    counts = dict(kept)
    ahead = counts.get(name, 0)
    if name not in counts and len(counts) == room:
        ahead = _least_count(kept)
        # The kept names ascend, so the last one with this count is the greatest.
        leaver = [other for other, count in kept if count == ahead][-1]
        del counts[leaver]
    counts[name] = ahead + 1
    return (room, many + 1, tuple(sorted(counts.items())))


def _least_count(kept):
    """The least of the counts."""
    return min([count for _, count in kept])


def from_space(space):
    """The sketch, with one room less, of the same items."""
    if not is_space(space):
        raise NoSpace()
    room, many, kept = space
    off = _least_count(kept) if len(kept) == room else 0
    return (room - 1, many, off, tuple([(name, count - off) for name, count in kept if count > off]))
