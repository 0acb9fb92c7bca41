"""Questions of counts, and the least and greatest values over all truths of a sketch."""

from knownends.errors import NoCounts, NoNumber, NoQuestion, NoSketch, TooMany
from knownends.kinds import is_int, is_number
from knownends.plans import falling, plans_of
from knownends.sketches import is_sketch
from knownends.streams import are_counts, is_name
from knownends.truths import MOST_ITEMS, is_truth, truth_with

MOST_ASKED = 40


def is_question(thing):
    """Whether it is one of the seven questions."""
    if not isinstance(thing, tuple) or not thing or not isinstance(thing[0], str):
        return False
    word = thing[0]
    if word in ("unlike", "squares"):
        return len(thing) == 1
    if word == "apart":
        return len(thing) == 3 and is_name(thing[1]) and is_name(thing[2]) and thing[1] != thing[2]
    if len(thing) != 2:
        return False
    if word in ("count", "place"):
        return is_name(thing[1])
    if word == "first":
        return is_int(thing[1]) and 1 <= thing[1] <= MOST_ASKED
    return word == "lot" and _is_lot(thing[1])


def _is_lot(thing):
    """Whether it is an ascending tuple of names, not too many."""
    if not isinstance(thing, tuple) or len(thing) > MOST_ASKED or not all([is_name(name) for name in thing]):
        return False
    return all([one < other for one, other in zip(thing, thing[1:])])


def value(counts, question):
    """What counts tell to a question."""
    if not are_counts(counts):
        raise NoCounts()
    if not is_question(question):
        raise NoQuestion()
    return _worth(dict(counts), [], question)


def _worth(named, parts, question):
    """The value for the counts of a dict and those of fresh names, pairs (count, many)."""
    word = question[0]
    groups = [(count, 1) for count in named.values() if count > 0] + parts
    if word == "count":
        return named.get(question[1], 0)
    if word == "lot":
        return sum([named.get(name, 0) for name in question[1]])
    if word == "apart":
        return named.get(question[1], 0) - named.get(question[2], 0)
    if word == "place":
        mine = named.get(question[1], 0)
        return 1 + sum([many for count, many in groups if count > mine])
    if word == "first":
        return _greatest(groups, question[1])
    if word == "unlike":
        return sum([many for _, many in groups])
    return sum([count * count * many for count, many in groups])


def _greatest(groups, j):
    """The sum of the j greatest counts."""
    total = 0
    left = j
    for count, many in sorted(groups, reverse=True):
        total += count * min(many, left)
        left -= min(many, left)
    return total


def _need_both(sketch, question):
    """Raises NoSketch, then NoQuestion."""
    if not is_sketch(sketch):
        raise NoSketch()
    if not is_question(question):
        raise NoQuestion()


def _need_few(sketch, question):
    """Raises NoSketch, NoQuestion, then TooMany for a sketch of too many items."""
    _need_both(sketch, question)
    if sketch[1] > MOST_ITEMS:
        raise TooMany(MOST_ITEMS)


def _named(sketch, taken):
    """The counts of a sketch and what was taken, as a dict."""
    named = dict(sketch[3])
    for name, amount in taken.items():
        named[name] = named.get(name, 0) + amount
    return named


def ends(sketch, question):
    """The least and the greatest value over all truths of a sketch."""
    _need_both(sketch, question)
    low, high = [_worth(_named(sketch, taken), parts, question) for taken, parts in plans_of(sketch, question)]
    return low, high


def end_truths(sketch, question):
    """A truth with the least value and one with the greatest."""
    _need_few(sketch, question)
    truths = []
    for taken, parts in plans_of(sketch, question):
        named = _named(sketch, taken)
        truths.append(truth_with(named, parts, named))
    return tuple(truths)


def is_end_truths(sketch, question, thing):
    """Whether it is a pair of truths with the least and the greatest value."""
    _need_few(sketch, question)
    if not isinstance(thing, tuple) or len(thing) != 2:
        return False
    if not all([is_truth(sketch, truth) for truth in thing]):
        return False
    return tuple([value(truth, question) for truth in thing]) == ends(sketch, question)


def surely_above(sketch, most):
    """The names whose count is above a number in every truth."""
    if not is_sketch(sketch):
        raise NoSketch()
    if not is_number(most):
        raise NoNumber()
    return tuple([name for name, count in sketch[3] if count > most])


def perhaps_above(sketch, most):
    """The kept names whose count is above a number in some truth, and whether some other name's is."""
    if not is_sketch(sketch):
        raise NoSketch()
    if not is_number(most):
        raise NoNumber()
    off = sketch[2]
    return tuple([name for name, count in sketch[3] if count + off > most]), off > most


def surely_first(sketch):
    """The name whose count is above all other ones in every truth, or None."""
    if not is_sketch(sketch):
        raise NoSketch()
    off = sketch[2]
    names = falling(sketch[3])
    if not names:
        return None
    counts = dict(sketch[3])
    # Any other name, also one that isn't kept, may have been taken from as often as could be.
    second = counts[names[1]] if len(names) > 1 else 0
    return names[0] if counts[names[0]] > second + off else None


def perhaps_first(sketch):
    """The kept names that may have a count below no other one, and whether some other name may."""
    if not is_sketch(sketch):
        raise NoSketch()
    off = sketch[2]
    most = max([count for _, count in sketch[3]], default=0)
    return tuple([name for name, count in sketch[3] if count + off >= most]), off > 0 and off >= most
