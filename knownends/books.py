"""Books: for each source the sketch of its first items, as far as they are known."""

from knownends.errors import NoBook, NoRoom, OtherRoom
from knownends.kinds import is_int, is_room
from knownends.sketches import bare, is_sketch
from knownends.tallies import Tally

MOST_MACHINES = 9


def is_book(thing):
    """Whether it is an ascending tuple of triples (source, number, sketch), one for a source, all of one room."""
    if not isinstance(thing, tuple) or not all([_is_triple(triple) for triple in thing]):
        return False
    return all([one[0] < other[0] and one[2][0] == other[2][0] for one, other in zip(thing, thing[1:])])


def _is_triple(thing):
    """Whether it is a triple of a source, a number, and a sketch that has seen so many items."""
    if not isinstance(thing, tuple) or len(thing) != 3:
        return False
    source, number, sketch = thing
    if not is_int(source) or not 1 <= source <= MOST_MACHINES:
        return False
    return is_int(number) and is_sketch(sketch) and number == sketch[1]


def joined_books(one, other):
    """The book that tells of each source what the one of two books tells that tells more."""
    if not is_book(one) or not is_book(other):
        raise NoBook()
    if one and other and one[0][2][0] != other[0][2][0]:
        raise OtherRoom()
    triples = {triple[0]: triple for triple in one}
    for triple in other:
        source, number, _ = triple
        if source not in triples or number > triples[source][1]:
            triples[source] = triple
    return tuple([triples[source] for source in sorted(triples)])


def whole(room, book):
    """The sketch of all items that a book tells of, its sketches poured in by sources."""
    if not is_room(room):
        raise NoRoom()
    if not is_book(book):
        raise NoBook()
    if book and book[0][2][0] != room:
        raise OtherRoom()
    tally = Tally(bare(room))
    for triple in book:
        tally.pour(triple[2])
    return tally.sketch()
