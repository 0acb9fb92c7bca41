"""The machines of a net: each has a disk, and knows what the disk tells."""

from knownends.books import joined_books
from knownends.disks import Disk, kept, noted, opened
from knownends.sketches import bare
from knownends.tallies import Tally


class Source:
    """A machine that notes the items of a stream."""

    def __init__(self, room):
        self.room = room
        self.disk = Disk()
        self.is_up = True
        # All names that it ever noted whole, also those that a compacted disk tells no more.
        self.names = []
        self.tally = Tally(bare(room))
        self.recall()

    def recall(self):
        """From now on it knows just what its disk tells, which is mended."""
        self.tally = Tally(bare(self.room))
        for item in opened(self.disk):
            if item[0] == "start":
                self.tally = Tally(item[2])
            else:
                self.tally.gain(item[1], 1)

    def told(self):
        """How many items it has noted, and their sketch."""
        return self.tally.seen, self.tally.sketch()

    def note(self, name):
        """Notes an item."""
        noted(self.disk, ("item", name), None)
        self.tally.gain(name, 1)
        self.names.append(name)

    def note_cut(self, name, most):
        """Falls amid noting an item, only the first most signs written."""
        ahead = self.tally.seen
        noted(self.disk, ("item", name), most)
        self.fall()
        if self.tally.seen > ahead:
            self.names.append(name)

    def compact(self, most):
        """Keeps a sketch in the place of all items; falls if most isn't None."""
        number, sketch = self.told()
        kept(self.disk, (("start", number, sketch),), most)
        if most is not None:
            self.fall()

    def fall(self):
        """It is down; its disk is opened at once, as nothing is written there until it rises."""
        self.is_up = False
        self.recall()

    def copy(self):
        """Another one that goes on from the same state."""
        twin = Source(self.room)
        twin.disk = self.disk.copy()
        twin.is_up = self.is_up
        twin.names = list(self.names)
        twin.tally = Tally(self.tally.sketch())
        return twin


class Collector:
    """A machine that joins books."""

    def __init__(self):
        self.disk = Disk()
        self.is_up = True
        self.known = ()
        self.recall()

    def recall(self):
        """From now on it knows just what its disk tells, which is mended."""
        self.known = ()
        for _, book in opened(self.disk):
            self.known = joined_books(self.known, book)

    def take_in(self, book, most):
        """Joins a book to its own and notes it, or only its first most signs, if that changes its own."""
        now_known = joined_books(self.known, book)
        if now_known != self.known:
            noted(self.disk, ("book", book), most)
            self.known = now_known

    def compact(self, most):
        """Keeps its book in the place of all that it noted; falls if most isn't None."""
        kept(self.disk, (("book", self.known),), most)
        if most is not None:
            self.fall()

    def fall(self):
        """It is down; its disk is opened at once, as nothing is written there until it rises."""
        self.is_up = False
        self.recall()

    def copy(self):
        """Another one that goes on from the same state."""
        twin = Collector()
        twin.disk = self.disk.copy()
        twin.is_up = self.is_up
        twin.known = self.known
        return twin
