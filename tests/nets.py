"""A net for the tests, told the long way: of each machine just its disk is there, and it is read anew each time."""

from knownends.disks import Disk, kept, noted, opened
from knownends.sketches import bare, fed

NAMES = "aaabbcdefgh"


def line_length(disk, item):
    """How many signs the line of an item has behind what stands on a disk."""
    return noted(disk.copy(), item, None)


def keep_length(disk, items):
    """How many signs an area with these items has, written on a disk."""
    return kept(disk.copy(), items, None)


class SlowNet:
    """A net whose machines are (disk, whether it is up); it does events without asking whether they are possible."""

    def __init__(self, room, sources, collectors):
        self.room = room
        self.disks = {"source": [Disk() for _ in range(sources)], "collector": [Disk() for _ in range(collectors)]}
        self.is_up = {"source": [True] * sources, "collector": [True] * collectors}
        self.names = [[] for _ in range(sources)]
        self.bag = []
        for disk in self.disks["source"] + self.disks["collector"]:
            opened(disk)

    def source(self, s):
        """The number of items and the sketch that a source's disk tells."""
        number, sketch = 0, bare(self.room)
        for item in opened(self.disks["source"][s - 1].copy()):
            if item[0] == "start":
                _, number, sketch = item
            else:
                number, sketch = number + 1, fed(sketch, item[1])
        return number, sketch

    def book(self, c):
        """The book that a collector's disk tells."""
        triples = {}
        for _, book in opened(self.disks["collector"][c - 1].copy()):
            for source, number, sketch in book:
                if source not in triples or number > triples[source][1]:
                    triples[source] = (source, number, sketch)
        return tuple(triples[source] for source in sorted(triples))

    def fall(self, kind, i):
        """A machine falls."""
        self.is_up[kind][i - 1] = False

    def read(self, letter, most):
        """A letter is read; how it changes the book is seen on a copy of the disk."""
        c, _, book = letter
        if self.is_up["collector"][c - 1]:
            disk = self.disks["collector"][c - 1]
            before = self.book(c)
            twin = disk.copy()
            noted(twin, ("book", book), None)
            self.disks["collector"][c - 1] = twin
            if self.book(c) == before:
                self.disks["collector"][c - 1] = disk
            elif most is not None:
                self.disks["collector"][c - 1] = disk
                noted(disk, ("book", book), most)

    def note(self, s, name, most):
        """A source notes an item."""
        ahead = self.source(s)[0]
        noted(self.disks["source"][s - 1], ("item", name), most)
        if self.source(s)[0] > ahead:
            self.names[s - 1].append(name)

    def event(self, event):
        """Does an event."""
        word, *parts = event
        if word == "item":
            self.note(*parts, None)
        elif word == "break":
            self.note(*parts)
            self.fall("source", parts[0])
        elif word == "send":
            s, c = parts
            self.bag.append((c, "source", ((s, *self.source(s)),)))
        elif word == "share":
            c, e = parts
            self.bag.append((e, "book", self.book(c)))
        elif word in ("come", "double", "lose", "cut"):
            letter = self.bag[parts[0]] if word == "double" else self.bag.pop(parts[0])
            if word != "lose":
                self.read(letter, parts[1] if word == "cut" else None)
            if word == "cut":
                self.fall("collector", letter[0])
        elif word == "fall":
            self.fall(*parts)
        elif word == "rise":
            kind, i = parts
            opened(self.disks[kind][i - 1])
            self.is_up[kind][i - 1] = True
        else:
            kind, i, most = parts
            items = (("start", *self.source(i)),) if kind == "source" else (("book", self.book(i)),)
            kept(self.disks[kind][i - 1], items, most)
            if most is not None:
                self.fall(kind, i)

    def state(self):
        """All that a net tells but its events."""
        sources = [self.source(s) for s in range(1, len(self.names) + 1)]
        books = [self.book(c) for c in range(1, len(self.disks["collector"]) + 1)]
        up = tuple(self.is_up["source"]), tuple(self.is_up["collector"])
        return sources, books, [tuple(names) for names in self.names], up, list(self.bag)


def state_of(net):
    """All that a net tells but its events."""
    _, sources, collectors = net.beginning()
    numbers = range(1, sources + 1)
    books = [net.book(c) for c in range(1, collectors + 1)]
    return [net.source(s) for s in numbers], books, [net.names_of(s) for s in numbers], net.up(), net.bag()


def drawn_event(rng, net, is_cut=True):
    """An event that is possible now."""
    _, sources, collectors = net.beginning()
    up = dict(zip(("source", "collector"), net.up()))
    s, c, e = rng.randint(1, sources), rng.randint(1, collectors), rng.randint(1, collectors)
    kind = rng.choice(["source", "collector"])
    i = s if kind == "source" else c
    n = rng.choice([0, 5, 20, 40, 60, 80, 100, 200, 10 ** 6]) if is_cut else 10 ** 6
    events = []
    if up["source"][s - 1]:
        name = rng.choice(NAMES)
        events += [("item", s, name)] * 6 + [("send", s, c)] * 4 + [("break", s, name, n)]
    if up["collector"][c - 1]:
        events += [("share", c, e)] * 2
    if up[kind][i - 1]:
        events += [("fall", kind, i), ("compact", kind, i, None), ("compact", kind, i, n)]
    else:
        events += [("rise", kind, i)] * 5
    bag = net.bag()
    if bag:
        k = rng.randrange(len(bag))
        events += [("come", k)] * 4 + [("double", k), ("lose", k)]
        if up["collector"][bag[k][0] - 1]:
            events += [("cut", k, n)]
    return rng.choice(events) if events else drawn_event(rng, net, is_cut)


def run(rng, net, many):
    """Does so many drawn events; returns them."""
    events = []
    for _ in range(many):
        events.append(drawn_event(rng, net))
        net.event(events[-1])
    return events
