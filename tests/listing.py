"""Lists for the tests, made the long way: all truths of a sketch, all sketches, all that trees can lead to."""

from knownends.sketches import bare, fed, is_sketch, poured

# Names that the tests take for what is neither kept nor asked.
STRANGERS = tuple("opqrstuvwxyz")


def lost(sketch):
    """What a sketch has seen beside what it keeps."""
    return sketch[1] - sum(count for _, count in sketch[3])


def shares(caps, total):
    """All tuples of numbers, each at most its cap, that sum to a total."""
    if not caps:
        return [()] if total == 0 else []
    return [(one,) + rest for one in range(min(caps[0], total) + 1) for rest in shares(caps[1:], total - one)]


def truths(sketch, names):
    """All truths of a sketch in which only these names and the kept ones stand."""
    _, _, off, kept = sketch
    counts = dict(kept)
    whole = sorted({*names, *counts})
    told = []
    for taken in shares([off] * len(whole), lost(sketch)):
        sums = [(name, counts.get(name, 0) + one) for name, one in zip(whole, taken)]
        told.append(tuple((name, count) for name, count in sums if count > 0))
    return told


def parts_of(total, most):
    """All falling tuples of numbers from 1 to most that sum to a total."""
    if total == 0:
        return [()]
    return [(one,) + rest for one in range(min(total, most), 0, -1) for rest in parts_of(total - one, one)]


def truths_but_for_strangers(sketch, names):
    """All truths of a sketch, but that of those unlike only in how other names than these are called just one is told."""
    _, _, off, kept = sketch
    whole = sorted({*names, *dict(kept)})
    told = []
    for total in range(lost(sketch) + 1):
        rows = parts_of(lost(sketch) - total, off)
        for taken in shares([off] * len(whole), total):
            table = dict(kept)
            for name, one in zip(whole, taken):
                table[name] = table.get(name, 0) + one
            ahead = [(name, count) for name, count in table.items() if count > 0]
            told += [tuple(sorted(ahead + list(zip(STRANGERS, row)))) for row in rows]
    return told


def all_counts(names, room, most):
    """All counts of at most room of these names that sum to at most so many."""
    if not names:
        return [()]
    told = []
    for rest in all_counts(names[1:], room, most):
        told.append(rest)
        if len(rest) < room:
            left = most - sum(count for _, count in rest)
            told += [((names[0], count),) + rest for count in range(1, left + 1)]
    return told


def all_sketches(room, many, names):
    """All sketches of this room and exactly so many items that keep only these names: by their bounds."""
    told = []
    for kept in all_counts(names, room, many):
        left = many - sum(count for _, count in kept)
        told += [(room, many, off, kept) for off in range(many + 1) if (room + 1) * off <= left <= 2 * room * off]
    return told


def grown(counts, name):
    """Counts with one item more."""
    table = dict(counts)
    table[name] = table.get(name, 0) + 1
    return tuple(sorted(table.items()))


def added(counts, others):
    """The counts of two streams together."""
    table = dict(counts)
    for name, count in others:
        table[name] = table.get(name, 0) + count
    return tuple(sorted(table.items()))


def led_to(room, names, most):
    """For each number of items up to a bound: all pairs (sketch, counts) to which trees of these names lead."""
    levels = [{(bare(room), ())}]
    for many in range(1, most + 1):
        level = {(fed(sketch, name), grown(counts, name)) for sketch, counts in levels[-1] for name in names}
        for part in range(1, many // 2 + 1):
            for sketch, counts in levels[part]:
                for other, others in levels[many - part]:
                    level.add((poured(sketch, other), added(counts, others)))
        levels.append(level)
    return levels


# Sketches whose bounds, kept names or lost are at an edge, and such in the middle.
SKETCHES = [
    (1, 0, 0, ()),
    (1, 1, 0, (("a", 1),)),
    (1, 2, 1, ()),
    (1, 5, 2, (("b", 1),)),
    (1, 9, 2, (("a", 5),)),
    (2, 3, 0, (("a", 2), ("b", 1))),
    (2, 4, 0, (("a", 2), ("b", 2))),
    (2, 3, 1, ()),
    (2, 4, 1, ()),
    (2, 5, 1, (("a", 1),)),
    (2, 8, 1, (("a", 3), ("c", 2))),
    (2, 9, 2, (("a", 1), ("b", 1))),
    (2, 8, 2, (("b", 1),)),
    (2, 14, 2, (("a", 4), ("b", 2))),
    (2, 12, 3, (("a", 2), ("b", 1))),
    (3, 6, 1, (("a", 1), ("b", 1))),
    (3, 13, 1, (("a", 4), ("b", 3), ("c", 1))),
    (3, 14, 2, (("a", 3), ("b", 2), ("c", 1))),
]

assert all(is_sketch(sketch) for sketch in SKETCHES)
