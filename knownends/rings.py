"""Windows: sketches of the last blocks of a stream, and what can be known of several sketches together."""

from knownends.errors import NoName, NoNumber, NoSketches
from knownends.kinds import is_int
from knownends.questions import ends
from knownends.sketches import bare, is_sketch
from knownends.streams import is_name
from knownends.tallies import Tally

MOST_SIZE = 10 ** 6
MOST_BLOCKS = 100
MOST_SKETCHES = 100


def _is_within(thing, low, high):
    """Whether it is an integer within these bounds."""
    return is_int(thing) and low <= thing <= high


class Ring:
    """A stream whose items are sketched block by block; only the last blocks are kept."""

    def __init__(self, room, size, blocks):
        self.tally = Tally(bare(room))
        if not _is_within(size, 1, MOST_SIZE) or not _is_within(blocks, 1, MOST_BLOCKS):
            raise NoNumber()
        self.room = room
        self.size = size
        self.blocks = blocks
        self.total = 0
        self.sketches = []

    def feed(self, name):
        """One item more."""
        if not is_name(name):
            raise NoName()
        self.tally.gain(name, 1)
        self.total += 1
        if self.total % self.size == 0:
            self.sketches = (self.sketches + [self.tally.sketch()])[-self.blocks:]
            self.tally = Tally(bare(self.room))

    def many(self):
        """How many items were fed."""
        return self.total

    def last(self, j):
        """The sketches of the last j whole blocks that are kept, the eldest first."""
        if not _is_within(j, 0, self.blocks):
            raise NoNumber()
        return tuple(self.sketches[max(0, len(self.sketches) - j):])

    def now(self):
        """The sketch of the items behind the last whole block."""
        return self.tally.sketch()

    def copy(self):
        """Another ring that was fed with the same items."""
        twin = Ring(self.room, self.size, self.blocks)
        twin.tally = Tally(self.tally.sketch())
        twin.total = self.total
        twin.sketches = list(self.sketches)
        return twin


def _are_sketches(thing):
    """Whether it is a tuple of sketches, not too many."""
    if not isinstance(thing, tuple) or len(thing) > MOST_SKETCHES:
        return False
    return all([is_sketch(sketch) for sketch in thing])


def sum_ends(sketches, name):
    """The least and the greatest count of a name in trees that lead to these sketches, together."""
    if not _are_sketches(sketches):
        raise NoSketches()
    if not is_name(name):
        raise NoName()
    # The trees are chosen one by one, so each may be at its end at once.
    pairs = [ends(sketch, ("count", name)) for sketch in sketches]
    return sum([low for low, _ in pairs]), sum([high for _, high in pairs])
