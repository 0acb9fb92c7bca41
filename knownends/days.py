"""The day of a net as a text of lines, from which the net is made again, also if the text is torn."""

from knownends.disks import lines
from knownends.errors import NoDay, NoEvent, NoNumber, NoRoom
from knownends.net import Net
from knownends.readings import lines_of


def day(net):
    """The lines of how a net began and of each event."""
    room, sources, collectors = net.beginning()
    entries = [("net", room, sources, collectors)] + [("event", event) for event in net.events()]
    return lines_of(entries, 0, 0)


def relived(text):
    """The net that the counted lines of a text lead to, as far as they can be done, and how many events were done."""
    entries = lines(text)
    net = _begun(entries)
    many = 0
    for entry in entries[1:]:
        if not _is_done(net, entry):
            break
        many += 1
    return net, many


def _begun(entries):
    """The net of a first entry."""
    if not entries or not isinstance(entries[0], tuple) or len(entries[0]) != 4:
        raise NoDay()
    word, room, sources, collectors = entries[0]
    if word != "net":
        raise NoDay()
    try:
        return Net(room, sources, collectors)
    except (NoRoom, NoNumber):
        raise NoDay()


def _is_done(net, entry):
    """Does the event of an entry; whether it is the entry of one that can be done."""
    if not isinstance(entry, tuple) or len(entry) != 2 or entry[0] != "event":
        return False
    try:
        net.event(entry[1])
    except NoEvent:
        return False
    return True
