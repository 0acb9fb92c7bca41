"""How what a sketch lost may have been taken, so that the value of a question is least or greatest.

A PLAN is a pair (taken, parts): a dict of what was taken from the names of the question and the kept ones, as far as
the plan names them, and a list of pairs (amount, many): so much was taken from so many fresh names, which are neither
kept nor in the question. Names do not run out, so whatever is lost beside the dict can be taken from fresh names.
"""

from knownends.sketches import lost_of


def asked(question):
    """The names of a question."""
    if question[0] == "lot":
        return question[1]
    return tuple([part for part in question[1:] if isinstance(part, str)])


def falling(kept):
    """The names of counts, the greatest count first."""
    return [name for name, _ in sorted(kept, key=lambda pair: -pair[1])]


def parted(amount, size):
    """An amount in parts of this size, and one for what is left, as pairs (size, many)."""
    if amount == 0:
        return []
    groups = [(size, amount // size), (amount % size, 1)]
    return [(part, many) for part, many in groups if part > 0 and many > 0]


def plans_of(sketch, question):
    """The plan for the least value, and the one for the greatest."""
    off = sketch[2]
    word = question[0]
    spread = _filled(sketch, question, (), 1)
    if word in ("first", "unlike", "squares"):
        lumped = _filled(sketch, question, falling(sketch[3]), off)
        return (lumped, spread) if word == "unlike" else (spread, lumped)
    if word == "place":
        return _filled(sketch, question, asked(question), off), _passed(sketch, question[1])
    if word == "apart":
        return _filled(sketch, question, question[2:], off), _filled(sketch, question, question[1:2], off)
    return _filled(sketch, question, (), off), _filled(sketch, question, asked(question), off)


def _filled(sketch, question, names, size):
    """As much as can be is taken from these names, one behind another, all else from fresh ones in parts."""
    off = sketch[2]
    left = lost_of(sketch)
    taken = {name: 0 for name in asked(question)}
    for name in names:
        taken[name] = min(off, left)
        left -= taken[name]
    return taken, parted(left, size)


def _passed(sketch, name):
    """Nothing is taken from a name, and just so much from others that as many as can be have a greater count."""
    off = sketch[2]
    left = lost_of(sketch)
    counts = dict(sketch[3])
    mine = counts.get(name, 0)
    taken = {name: 0}
    # The greatest counts need the least, and each kept one needs less than a fresh name does.
    for other in falling(sketch[3]):
        need = max(0, mine + 1 - counts[other])
        if other != name and need <= min(off, left):
            taken[other] = need
            left -= need
    return taken, parted(left, min(mine + 1, off))
