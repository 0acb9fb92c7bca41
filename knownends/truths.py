"""Truths of a sketch: the counts that can have been, and a tree for each of them."""

from knownends.errors import NoSketch, NoTruth, TooMany
from knownends.naming import fresh_names
from knownends.sketches import is_sketch, sketch_of
from knownends.streams import are_counts, counts_of, is_tree

MOST_ITEMS = 1500


def is_truth(sketch, thing):
    """Whether it is the counts of some tree that leads to the sketch."""
    if not is_sketch(sketch):
        raise NoSketch()
    if not are_counts(thing):
        return False
    _, many, off, kept = sketch
    left = dict(kept)
    total = 0
    for name, count in thing:
        if not 0 <= count - left.pop(name, 0) <= off:
            return False
        total += count
    # The names that are left are kept, but not there.
    return not left and total == many


def truth_with(named, parts, known):
    """Counts: of the names of a dict, and of as many fresh names, not known, as there are parts."""
    names = fresh_names(sum([many for _, many in parts]), known)
    counts = [(name, count) for name, count in named.items() if count > 0]
    at = 0
    for count, many in parts:
        counts += [(name, count) for name in names[at:at + many]]
        at += many
    return tuple(sorted(counts))


def paper(sketch, truth):
    """A tree with just these counts that leads to the sketch."""
    if not is_truth(sketch, truth):
        raise NoTruth()
    room, many, _, kept = sketch
    if many > MOST_ITEMS:
        raise TooMany(MOST_ITEMS)
    steps = [("stream", _repeated(kept))]
    for layer in _layers(sketch, truth):
        steps += [("stream", layer[:room]), ("stream", layer[room:]), ("pour",), ("pour",)]
    return tuple(steps)


def _repeated(counts):
    """The stream of these counts, name by name."""
    return tuple([name for name, count in counts for _ in range(count)])


def _layers(sketch, truth):
    """What was taken, parted into as many tuples of unlike names as there was taken off.

    As a name stands in what was taken at most that often, and its items stand side by side, no layer gets it twice;
    and as the layers' lengths differ by one at most, each has more names than room, and at most twice as many.
    So two streams of names once each, poured together, have just one taken off, and nothing is kept of them.
    """
    _, _, off, kept = sketch
    counts = dict(kept)
    taken = _repeated([(name, count - counts.get(name, 0)) for name, count in truth])
    return [taken[k::off] for k in range(off)]


def is_paper(sketch, truth, thing):
    """Whether it is a tree with just these counts that leads to the sketch."""
    if not is_truth(sketch, truth):
        raise NoTruth()
    if not is_tree(thing) or counts_of(thing) != truth:
        return False
    return sketch_of(sketch[0], thing) == sketch
