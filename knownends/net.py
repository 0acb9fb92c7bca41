"""Nets of sources that note streams and collectors that gather them, by letters that may come in any way."""

from knownends.books import MOST_MACHINES
from knownends.errors import NoEvent, NoNumber, NoRoom
from knownends.kinds import is_int, is_number, is_room
from knownends.machines import Collector, Source
from knownends.streams import is_name

MOST_GATHERED = 20000


def _is_among(thing, many):
    """Whether it is the number of one of so many machines, counted from 1."""
    return is_int(thing) and 1 <= thing <= many


def _need(is_possible):
    """Raises NoEvent unless what an event needs is so."""
    if not is_possible:
        raise NoEvent()


def _machine(net, kind, i):
    """A machine that an event names."""
    _need(isinstance(kind, str) and kind in net.machines)
    _need(_is_among(i, len(net.machines[kind])))
    return net.machines[kind][i - 1]


def _running(net, kind, i):
    """A machine that an event names, and that must be up for it."""
    machine = _machine(net, kind, i)
    _need(machine.is_up)
    return machine


def _letter(net, k):
    """The letter of the bag that an event names."""
    _need(is_number(k) and k < len(net.letters))
    return net.letters[k]


def _read(net, letter):
    """A letter is read, unless its collector is down."""
    c, _, book = letter
    collector = _machine(net, "collector", c)
    if collector.is_up:
        collector.take_in(book, None)


def _item(net, event):
    """A source notes an item."""
    _, s, name = event
    source = _running(net, "source", s)
    _need(is_name(name))
    source.note(name)


def _break(net, event):
    """A source falls amid noting an item."""
    _, s, name, n = event
    source = _running(net, "source", s)
    _need(is_name(name) and is_number(n))
    source.note_cut(name, n)


def _send(net, event):
    """A source writes a letter with what it has noted."""
    _, s, c = event
    source = _running(net, "source", s)
    _machine(net, "collector", c)
    number, sketch = source.told()
    net.letters.append((c, "source", ((s, number, sketch),)))


def _share(net, event):
    """A collector writes a letter with its book."""
    _, c, e = event
    collector = _running(net, "collector", c)
    _machine(net, "collector", e)
    net.letters.append((e, "book", collector.known))


def _come(net, event):
    """A letter leaves the bag and is read."""
    letter = _letter(net, event[1])
    del net.letters[event[1]]
    _read(net, letter)


def _double(net, event):
    """A letter is read and stays in the bag."""
    _read(net, _letter(net, event[1]))


def _lose(net, event):
    """A letter leaves the bag unread."""
    _letter(net, event[1])
    del net.letters[event[1]]


def _cut(net, event):
    """A letter leaves the bag, to a collector that falls amid noting it."""
    _, k, n = event
    c, _, book = _letter(net, k)
    collector = _running(net, "collector", c)
    _need(is_number(n))
    del net.letters[k]
    collector.take_in(book, n)
    collector.fall()


def _fall(net, event):
    """A machine falls."""
    _, kind, i = event
    _running(net, kind, i).fall()


def _rise(net, event):
    """A machine that is down rises; what it knows was read off its disk when it fell."""
    _, kind, i = event
    machine = _machine(net, kind, i)
    _need(not machine.is_up)
    machine.is_up = True


def _compact(net, event):
    """A machine writes what it has on its disk anew, in short."""
    _, kind, i, n = event
    machine = _running(net, kind, i)
    _need(n is None or is_number(n))
    machine.compact(n)


# How long an event of each word is, the word counted, and what does it.
LENGTHS = {
    "item": 3, "break": 4, "send": 3, "share": 3, "come": 2, "double": 2, "lose": 2, "cut": 3, "fall": 3, "rise": 3,
    "compact": 4,
}
DEEDS = {
    "item": _item, "break": _break, "send": _send, "share": _share, "come": _come, "double": _double, "lose": _lose,
    "cut": _cut, "fall": _fall, "rise": _rise, "compact": _compact,
}


class Net:
    """Sources and collectors, the bag of letters between them, and all events so far."""

    def __init__(self, room, sources, collectors):
        if not is_room(room):
            raise NoRoom()
        if not _is_among(sources, MOST_MACHINES) or not _is_among(collectors, MOST_MACHINES):
            raise NoNumber()
        self.numbers = (room, sources, collectors)
        self.machines = {
            "source": [Source(room) for _ in range(sources)],
            "collector": [Collector() for _ in range(collectors)],
        }
        self.letters = []
        self.done = []

    def event(self, event):
        """Does an event."""
        _need(isinstance(event, tuple) and len(event) > 0 and isinstance(event[0], str))
        _need(LENGTHS.get(event[0]) == len(event))
        deed = DEEDS[event[0]]
        deed(self, event)
        self.done.append(event)

    def bag(self):
        """The list of the letters that are on their way."""
        return list(self.letters)

    def events(self):
        """The list of all events that were done."""
        return list(self.done)

    def beginning(self):
        """The arguments with which a net is made that is as this one was at first."""
        return self.numbers

    def _asked(self, kind, i):
        """The machine of a kind with this number."""
        if not _is_among(i, len(self.machines[kind])):
            raise NoNumber()
        return self.machines[kind][i - 1]

    def source(self, s):
        """How many items a source has noted, and their sketch."""
        return self._asked("source", s).told()

    def book(self, c):
        """The book of a collector."""
        return self._asked("collector", c).known

    def names_of(self, s):
        """All names that a source noted whole, in order."""
        return tuple(self._asked("source", s).names)

    def up(self):
        """Which sources are up, and which collectors."""
        return tuple([tuple([machine.is_up for machine in self.machines[kind]]) for kind in ("source", "collector")])

    def copy(self):
        """Another net that goes on from the same state."""
        twin = Net(*self.numbers)
        twin.machines = {kind: [machine.copy() for machine in self.machines[kind]] for kind in self.machines}
        twin.letters = list(self.letters)
        twin.done = list(self.done)
        return twin

    def gather(self, most):
        """All machines rise, all sources send to all collectors, all letters come, in at most so many events."""
        if not is_number(most) or most > MOST_GATHERED:
            raise NoNumber()
        calls = self._calls()[:most]
        for call in calls:
            self.event(call)
        many = len(calls)
        while many < most and self.letters:
            self.event(("come", 0))
            many += 1
        return many

    def _calls(self):
        """The list of the events by which all machines rise and all sources send to all collectors."""
        _, sources, collectors = self.numbers
        calls = []
        for kind in ("source", "collector"):
            for i, machine in enumerate(self.machines[kind], start=1):
                if not machine.is_up:
                    calls.append(("rise", kind, i))
        for s in range(1, sources + 1):
            calls += [("send", s, c) for c in range(1, collectors + 1)]
        return calls
