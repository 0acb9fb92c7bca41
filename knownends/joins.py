"""Sketches of two streams: what can be known of the names that stand in both, and whether they may be alike."""

from knownends.errors import NoCounts, NoRoom, NoSketch, TooMany
from knownends.plans import parted
from knownends.sketches import is_sketch, lost_of, need_two
from knownends.streams import are_counts
from knownends.truths import MOST_ITEMS, is_truth, truth_with

MOST_JOINED = 16


def joined(counts, others):
    """The sum of the products of the counts of the names that stand in both."""
    if not are_counts(counts) or not are_counts(others):
        raise NoCounts()
    beside = dict(others)
    return sum([count * beside.get(name, 0) for name, count in counts])


def _need_join(one, other):
    """Raises NoSketch, OtherRoom, then NoRoom for a room that is too large to be joined."""
    need_two(one, other)
    if one[0] > MOST_JOINED:
        raise NoRoom()


def _need_few(one, other):
    """Raises what _need_join does, then TooMany for a sketch of too many items."""
    _need_join(one, other)
    if one[1] > MOST_ITEMS or other[1] > MOST_ITEMS:
        raise TooMany(MOST_ITEMS)


def _names_of(one, other):
    """The ascending list of the names that either sketch keeps."""
    return sorted(set([name for name, _ in one[3] + other[3]]))


def _stock_of(sketch):
    """What was lost as a pair: how many names can have been taken from as often as can be, and what is left then.

    The sum of products is linear in what was taken for the one sketch, as long as the other one stays. So some
    greatest sum takes all or nothing from each name of either sketch, but for one name, which gives what is left.
    """
    return divmod(lost_of(sketch), sketch[2]) if sketch[2] > 0 else (0, 0)


def _portions(stock, off):
    """The portions of a stock, the greatest first."""
    fulls, part = stock
    return [off] * fulls + [part]


def _of_fresh(stocks, offs):
    """The sum of products that two stocks give at fresh names: the greatest portions of both meet, and so on."""
    mine = _portions(stocks[0], offs[0])
    theirs = _portions(stocks[1], offs[1])
    return sum([one * other for one, other in zip(mine, theirs)])


def _uses(stock, off):
    """What can be taken from one name, each with the stock that is left behind it."""
    fulls, part = stock
    uses = [(0, stock)]
    if fulls > 0:
        uses.append((off, (fulls - 1, part)))
    if part > 0:
        uses.append((part, (fulls, 0)))
    return uses


def _further(table, counts, offs):
    """The table of the best sums for each pair of stocks, when one name more is there.

    An entry is a pair (sum, trail); a trail is (), or a triple of a trail and what was taken from a name for both.
    """
    bests = {}
    for (mine, theirs), (total, trail) in table.items():
        uses = _uses(theirs, offs[1])
        for one, left in _uses(mine, offs[0]):
            for other, beside in uses:
                told = total + (counts[0] + one) * (counts[1] + other)
                if (left, beside) not in bests or told > bests[(left, beside)][0]:
                    bests[(left, beside)] = (told, (trail, one, other))
    return bests


def _best(one, other):
    """The greatest sum, the trail to it over all kept names, and the stocks that fresh names give."""
    offs = (one[2], other[2])
    counts = dict(one[3])
    others = dict(other[3])
    table = {(_stock_of(one), _stock_of(other)): (0, ())}
    for name in _names_of(one, other):
        table = _further(table, (counts.get(name, 0), others.get(name, 0)), offs)
    best = (-1, (), ())
    for stocks, (total, trail) in table.items():
        told = total + _of_fresh(stocks, offs)
        if told > best[0]:
            best = (told, trail, stocks)
    return best


def join(one, other):
    """The least and the greatest sum of products for a truth of one and a truth of other."""
    _need_join(one, other)
    return _least(one, other), _best(one, other)[0]


def _least(one, other):
    """The least sum: what was taken may have been taken from fresh names alone, unlike ones for each sketch."""
    return joined(one[3], other[3])


def join_truths(one, other):
    """A pair of truths with the least sum of products, and one with the greatest."""
    _need_few(one, other)
    return _least_truths(one, other), _greatest_truths(one, other)


def _spread_out(sketch, names):
    """The counts of a sketch as a dict in which each of these names stands."""
    counts = dict(sketch[3])
    return {name: counts.get(name, 0) for name in names}


def _least_truths(one, other):
    """A pair of truths with the least sum."""
    names = _names_of(one, other)
    mine = _spread_out(one, names)
    theirs = _spread_out(other, names)
    truth = truth_with(mine, parted(lost_of(one), one[2]), mine)
    met = dict(truth)
    return truth, truth_with(theirs, parted(lost_of(other), other[2]), {**theirs, **met})


def _greatest_truths(one, other):
    """A pair of truths with the greatest sum."""
    names = _names_of(one, other)
    mine = _spread_out(one, names)
    theirs = _spread_out(other, names)
    _, trail, stocks = _best(one, other)
    for name in reversed(names):
        trail, amount, beside = trail
        mine[name] += amount
        theirs[name] += beside
    truths = []
    for named, sketch, (fulls, part) in ((mine, one, stocks[0]), (theirs, other, stocks[1])):
        parts = parted(fulls * sketch[2] + part, sketch[2])
        truths.append(truth_with(named, parts, named))
    return tuple(truths)


def is_join_truths(one, other, thing):
    """Whether it is a pair of such pairs of truths, for the least sum and for the greatest."""
    _need_few(one, other)
    if not isinstance(thing, tuple) or len(thing) != 2 or not all([_are_truths(one, other, pair) for pair in thing]):
        return False
    return tuple([joined(truth, beside) for truth, beside in thing]) == join(one, other)


def _are_truths(one, other, thing):
    """Whether it is a pair of a truth of one and a truth of other."""
    if not isinstance(thing, tuple) or len(thing) != 2:
        return False
    return is_truth(one, thing[0]) and is_truth(other, thing[1])


def same(one, other):
    """Whether the counts of two streams are alike: surely, perhaps or never."""
    if not is_sketch(one) or not is_sketch(other):
        raise NoSketch()
    # As soon as anything was taken off, there is more than one truth, so that nothing is sure.
    if one[2] == 0 and other[2] == 0:
        return "surely" if one[3] == other[3] else "never"
    return "perhaps" if _may_be_same(one, other) else "never"


def _may_be_same(one, other):
    """Whether some truth is one of both."""
    if one[1] != other[1]:
        return False
    names = _names_of(one, other)
    mine = _spread_out(one, names)
    theirs = _spread_out(other, names)
    lows = [max(mine[name], theirs[name]) for name in names]
    highs = [min(mine[name] + one[2], theirs[name] + other[2]) for name in names]
    if any([low > high for low, high in zip(lows, highs)]) or sum(lows) > one[1]:
        return False
    # Fresh names can have whatever is left, if both sketches may have taken it from them.
    return min(one[2], other[2]) > 0 or sum(highs) >= one[1]
