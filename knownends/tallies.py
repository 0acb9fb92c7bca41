"""Sketches that are being fed and poured, with their counts in a dict, so that long streams are quick."""


class Tally:
    """A sketch that changes; sketch() tells it as a tuple."""

    def __init__(self, sketch):
        self.room, self.seen, self.off, kept = sketch
        self.counts = dict(kept)

    def sketch(self):
        """The sketch as it is now."""
        return (self.room, self.seen, self.off, tuple(sorted(self.counts.items())))

    def gain(self, name, times):
        """So many items of one name."""
        self.seen += times
        if name not in self.counts and len(self.counts) == self.room:
            amount = min(times, min(self.counts.values()))
            self._take(amount)
            times -= amount
        # What is left stands for items behind the one that made room.
        if times > 0:
            self.counts[name] = self.counts.get(name, 0) + times

    def pour(self, sketch):
        """Pours another sketch of the same room in."""
        _, many, off, kept = sketch
        self.seen += many
        self.off += off
        for name, count in kept:
            self.counts[name] = self.counts.get(name, 0) + count
        if len(self.counts) > self.room:
            falling = sorted(self.counts.values(), reverse=True)
            self._take(falling[self.room])

    def _take(self, amount):
        """Takes so much off each kept count; names of which nothing is left go."""
        self.off += amount
        self.counts = {name: count - amount for name, count in self.counts.items() if count > amount}
