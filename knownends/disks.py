"""Disks of two areas, which may be cut at any sign, and what is noted, kept and found again on them."""

from knownends.errors import NoArea, NoItems, NoNumber, NoStand, NoText, NoThing
from knownends.kinds import is_int, is_number, is_text
from knownends.readings import Reading, lines_of
from knownends.texts import sealed


class Disk:
    """Two areas, 0 and 1, each a text."""

    def __init__(self):
        self.areas = ["", ""]
        # How far each area has been read; it tells nothing that the area itself doesn't.
        self.readings = [Reading(), Reading()]

    def area(self, k):
        """The text of an area."""
        _need_area(k)
        return self.areas[k]

    def append(self, k, text, most):
        """Writes a text at the end of an area, or only its first most signs; tells how many are written."""
        _need_area(k)
        if not is_text(text):
            raise NoText()
        if not _is_most(most):
            raise NoNumber()
        written = text if most is None else text[:most]
        self.areas[k] = self.areas[k] + written
        return len(written)

    def clear(self, k):
        """Empties an area."""
        _need_area(k)
        self.areas[k] = ""
        self.readings[k] = Reading()

    def shorten(self, k, many):
        """Leaves only the first many signs of an area."""
        _need_area(k)
        if not is_number(many) or many > len(self.areas[k]):
            raise NoNumber()
        self.areas[k] = self.areas[k][:many]
        if many < self.readings[k].length:
            self.readings[k] = Reading()

    def copy(self):
        """Another disk with the same areas."""
        twin = Disk()
        twin.areas = list(self.areas)
        twin.readings = [reading.copy() for reading in self.readings]
        return twin

    def __eq__(self, other):
        return isinstance(other, Disk) and self.areas == other.areas

    def read(self, k):
        """The reading of an area, up to its last counted line."""
        reading = self.readings[k]
        reading.read_on(self.areas[k])
        return reading


def _need_area(k):
    """Raises NoArea for what is no area of a disk."""
    if not is_int(k) or not 0 <= k <= 1:
        raise NoArea()


def _is_most(most):
    """Whether it is None, or how many signs are written at most."""
    return most is None or is_number(most)


def _read(text):
    """The reading of a whole text."""
    if not is_text(text):
        raise NoText()
    reading = Reading()
    reading.read_on(text)
    return reading


def lines(text):
    """The list of the entries of the counted lines of a text."""
    return _read(text).entries


def rest(text):
    """How many signs the counted lines of a text have."""
    return _read(text).length


def standing(disk):
    """The area that stands, of two the one of the greater generation; None if none does."""
    found = None
    last = -1
    for k in range(2):
        age = disk.read(k).generation()
        if age is not None and age > last:
            found = k
            last = age
    return found


def opened(disk):
    """Mends a disk; the list of the items of its standing area."""
    k = standing(disk)
    if k is None:
        disk.clear(0)
        disk.clear(1)
        disk.append(0, lines_of([("area", 0), ("whole",)], 0, 0), None)
        return []
    reading = disk.read(k)
    disk.shorten(k, reading.length)
    disk.clear(1 - k)
    return reading.told_items()


def noted(disk, item, most):
    """Writes the line of an item behind the standing area; how many signs were written."""
    if not _is_item(item):
        raise NoItems()
    k = _needed_stand(disk, most)
    reading = disk.read(k)
    return disk.append(k, lines_of([("item", item)], reading.length, reading.total), most)


def kept(disk, items, most):
    """Writes a younger area with these items in the place of the other one; how many signs were written."""
    if not isinstance(items, tuple) or not all([_is_item(item) for item in items]):
        raise NoItems()
    k = _needed_stand(disk, most)
    entries = [("area", disk.read(k).age + 1)] + [("item", item) for item in items] + [("whole",)]
    # Ahead of clear, so that nothing is changed if these lines cannot be written.
    text = lines_of(entries, 0, 0)
    disk.clear(1 - k)
    return disk.append(1 - k, text, most)


def _is_item(item):
    """Whether a line can be written of it: it is a thing, and not nested too deep within the line's own tuples."""
    try:
        sealed((0, ("item", item)))
    except NoThing:
        return False
    return True


def _needed_stand(disk, most):
    """The standing area; NoNumber for a wrong most, then NoStand if there is none."""
    if not _is_most(most):
        raise NoNumber()
    k = standing(disk)
    if k is None:
        raise NoStand()
    return k
