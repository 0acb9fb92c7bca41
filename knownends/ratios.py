"""Fractions as pairs (top, bottom), ordered as numbers; streams, trees and places of them."""

from math import gcd

from knownends.kinds import is_int
from knownends.streams import is_tree_of


def is_fraction(thing):
    """Whether it is a pair of integers without a common divisor above 1, the bottom from 1 on."""
    if not isinstance(thing, tuple) or len(thing) != 2:
        return False
    top, bottom = thing
    return is_int(top) and is_int(bottom) and bottom >= 1 and gcd(top, bottom) == 1


def is_less(one, other):
    """Whether one fraction is below the other as a number."""
    return one[0] * other[1] < other[0] * one[1]


def ascending(fractions):
    """The list of the unlike ones of some fractions, ascending."""
    unlike = {fraction: True for fraction in fractions}
    widest = max([bottom for _, bottom in unlike], default=1)
    # Unlike ones are at least 1 / (widest * widest) apart, so each gets a number of its own, in the same order.
    rows = sorted([(top * widest * widest // bottom, top, bottom) for top, bottom in unlike])
    return [(top, bottom) for _, top, bottom in rows]


def between(low, high, part, parts):
    """The fraction that so many of so many like parts lead to on the way from one fraction to another."""
    bottom = low[1] * high[1] * parts
    top = low[0] * high[1] * (parts - part) + high[0] * low[1] * part
    common = gcd(top, bottom)
    return (top // common, bottom // common)


def are_numbers(thing):
    """Whether it is a number stream: a tuple of fractions."""
    return isinstance(thing, tuple) and all([is_fraction(item) for item in thing])


def is_number_tree(thing):
    """Whether it is a tree of number streams."""
    return is_tree_of(thing, "numbers", are_numbers)


def items_of(tree):
    """The list of all items of a number tree, stream by stream."""
    return [item for step in tree if step[0] == "numbers" for item in step[1]]


def is_side(thing):
    """Whether it is one of the two sides."""
    return is_int(thing) and 0 <= thing <= 1


def is_place(thing):
    """Whether it is a pair of a fraction and a side."""
    return isinstance(thing, tuple) and len(thing) == 2 and is_fraction(thing[0]) and is_side(thing[1])


def is_at(fraction, place):
    """Whether an item is counted at a place: it is below its fraction, or, for side 1, this fraction itself."""
    return is_less(fraction, place[0]) or (place[1] == 1 and fraction == place[0])
