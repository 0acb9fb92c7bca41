"""Lines of an area: how they are written, and how they are read from the front as long as they count."""

from knownends.kinds import is_number
from knownends.texts import check_behind, sealed, unsealed


def lines_of(entries, length, total):
    """The lines of these entries behind a text of so many signs with this check."""
    rows = []
    for entry in entries:
        row = sealed((total, entry)) + "\n"
        total = check_behind(total, length, row)
        length += len(row)
        rows.append(row)
    return "".join(rows)


class Reading:
    """What the counted lines of a text tell, as far as it has been read.

    It can be read on when the text has grown, so that a long area is not read anew for each line.
    """

    def __init__(self):
        self.entries = []
        self.length = 0
        self.total = 0
        self.age = None
        self.is_whole = False

    def copy(self):
        """Another one that has read as far."""
        twin = Reading()
        twin.entries = list(self.entries)
        twin.length = self.length
        twin.total = self.total
        twin.age = self.age
        twin.is_whole = self.is_whole
        return twin

    def read_on(self, text):
        """Reads the lines behind those that are read already, up to the first one that doesn't count."""
        end = text.find("\n", self.length)
        while end >= 0:
            told = unsealed(text[self.length:end])
            if not _is_line(told, self.total):
                return
            self._take(told[0][1])
            self.total = check_behind(self.total, self.length, text[self.length:end + 1])
            self.length = end + 1
            end = text.find("\n", self.length)

    def _take(self, entry):
        """One entry more."""
        if not self.entries:
            self.age = _age_of(entry)
        elif entry == ("whole",):
            self.is_whole = True
        self.entries.append(entry)

    def generation(self):
        """The generation of the area if it stands, else None."""
        return self.age if self.is_whole else None

    def told_items(self):
        """The list of the things of all item entries."""
        return [entry[1] for entry in self.entries if _is_pair(entry) and entry[0] == "item"]


def _is_line(told, total):
    """Whether what unsealed told of a line is a pair with this check."""
    return told != () and _is_pair(told[0]) and told[0][0] == total


def _is_pair(thing):
    """Whether it is a tuple of two."""
    return isinstance(thing, tuple) and len(thing) == 2


def _age_of(entry):
    """The generation that a first entry tells, None if it tells none."""
    if _is_pair(entry) and entry[0] == "area" and is_number(entry[1]):
        return entry[1]
    return None
