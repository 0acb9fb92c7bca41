"""A foe of whatever claims to keep few names and to tell narrow ends."""

from knownends.errors import NoNumber, NoRoom
from knownends.kinds import is_int, is_room
from knownends.naming import least_names
from knownends.rooms import LONGEST, in_rounds, most_off
from knownends.streams import LONGEST_NAME, is_stream

# Of each kind of verdict, how many names it has behind the stream.
NAMES = {"keeps": 0, "lies": 1, "knows": 2, "wide": 1}


def _need_bounds(room, many):
    """Raises NoRoom, then NoNumber for a number of items that is none or too great."""
    if not is_room(room):
        raise NoRoom()
    if not is_int(many) or not 1 <= many <= LONGEST:
        raise NoNumber()


def play(maker, room, many):
    """What is wrong with the keepers of a maker, or a stream behind which one tells ends that are wide."""
    _need_bounds(room, many)
    verdict = None
    for stream in _streams(room, many):
        verdict = _found(maker, room, stream)
        if verdict[0] != "wide":
            break
    return verdict


def _streams(room, many):
    """The streams with which keepers are tried.

    The last ones have each of room + 1 names most_off(room, many) times or more. One of these is not kept, and one that
    never came isn't either; if both have the same ends, and these hold both counts, they are as wide as that.
    """
    names = least_names(room + 1)
    rounds = in_rounds(names, many)
    return [in_rounds(names[:1], many), in_rounds(names[:room], many), tuple(sorted(rounds)), rounds]


def _found(maker, room, stream):
    """The verdict on a keeper that is fed with a stream; a wide one if nothing is wrong with it."""
    kept, ends = _fed_keeper(maker, stream)
    told = kept()
    if not _are_kept(told, room):
        return ("keeps", stream)
    names = _asked(room)
    for name in names:
        if not _hold(ends(name), stream.count(name)):
            return ("lies", stream, name)
    strange = [name for name in names if name not in told]
    for name in strange:
        if ends(name) != ends(strange[0]):
            return ("knows", stream, strange[0], name)
    return ("wide", stream, strange[0])


def _asked(room):
    """The names whose ends are asked: room + 1 that may have come, as many others, and some of each length."""
    names = least_names(2 * room + 2)
    lasts = ["z" * many for many in range(1, LONGEST_NAME + 1)]
    return names + [name for name in lasts if name not in names]


def _fed_keeper(maker, stream):
    """What tells the kept names, and what tells the ends, of a new keeper that was fed with a stream."""
    feed, kept, ends = maker()
    for name in stream:
        feed(name)
    return kept, ends


def _are_kept(names, room):
    """Whether it is a tuple of at most room unlike names."""
    return is_stream(names) and len(names) <= room and len(set(names)) == len(names)


def _tells(names, name):
    """Whether what kept told has a name; what is no tuple has none."""
    return isinstance(names, tuple) and name in names


def _is_pair(pair):
    """Whether it is a pair of integers."""
    return isinstance(pair, tuple) and len(pair) == 2 and is_int(pair[0]) and is_int(pair[1])


def _hold(pair, count):
    """Whether it is a pair of integers between which a count lies."""
    return _is_pair(pair) and pair[0] <= count <= pair[1]


def is_verdict(maker, room, many, thing):
    """Whether it is a verdict, and holds."""
    _need_bounds(room, many)
    if not _is_form(thing, many):
        return False
    word, stream, *names = thing
    kept, ends = _fed_keeper(maker, stream)
    told = kept()
    if word == "keeps":
        return not _are_kept(told, room)
    pairs = [ends(name) for name in names]
    holds = [_hold(pair, stream.count(name)) for pair, name in zip(pairs, names)]
    if word == "lies":
        return not holds[0]
    if any([_tells(told, name) for name in names]):
        return False
    if word == "knows":
        return all(holds) and pairs[0] != pairs[1]
    return _is_pair(pairs[0]) and pairs[0][1] - pairs[0][0] >= most_off(room, many)


def _is_form(thing, many):
    """Whether it is of the form of a verdict, of at most so many items."""
    if not isinstance(thing, tuple) or len(thing) < 2 or not isinstance(thing[0], str):
        return False
    if not is_stream(thing[1]) or len(thing[1]) > many or len(thing) - 2 != NAMES.get(thing[0], -1):
        return False
    return is_stream(thing[2:]) and len(set(thing[2:])) == len(thing[2:])
