"""Fractions, number trees and marks for the tests, with Python's own fractions to reckon with."""

from fractions import Fraction

POUR = ("pour",)


def pair(number):
    """A number as the pair of its top and bottom."""
    number = Fraction(number)
    return (number.numerator, number.denominator)


def number(fraction):
    """A pair of top and bottom as a number."""
    return Fraction(*fraction)


def stream(*numbers):
    """The number stream of these numbers."""
    return tuple(pair(one) for one in numbers)


def items(tree):
    """All items of a number tree, as numbers."""
    return [number(item) for step in tree if step[0] == "numbers" for item in step[1]]


def count_at(numbers, place):
    """How many of some numbers are below the place's fraction, or up to it."""
    value = number(place[0])
    return sum(one < value or (place[1] == 1 and one == value) for one in numbers)


def drawn_tree(rng, leaves, most, values):
    """A number tree of so many streams of at most so many of these numbers, poured in some order."""
    steps, height = [], 0
    while leaves > 0 or height > 1:
        if height > 1 and (leaves == 0 or rng.random() < 0.5):
            steps.append(POUR)
            height -= 1
        else:
            steps.append(("numbers", stream(*[rng.choice(values) for _ in range(rng.randint(0, most))])))
            height += 1
            leaves -= 1
    return tuple(steps)


def drawn_values(rng, many):
    """A list of so many numbers near zero, some of them alike."""
    return [Fraction(rng.randint(-6, 6), rng.choice([1, 1, 2, 3])) for _ in range(many)]


def drawn_marks(rng, many):
    """How many items, and so many marks that can be those of a rank sketch of them."""
    marks, c, d = [], 0, 0
    value = Fraction(rng.randint(-9, 9))
    for _ in range(many):
        a = c + rng.choice([0, 0, 1, 2])
        b = max(a, d) + rng.choice([0, 0, 1, 3])
        c = a + rng.choice([1, 1, 2])
        d = max(c, b + 1) + rng.choice([0, 0, 1, 2])
        marks.append((pair(value), a, b, c, d))
        value += Fraction(rng.randint(1, 5), rng.randint(1, 3))
    return d + rng.choice([0, 0, 1, 4]), tuple(marks)


def places_about(values):
    """Places at some numbers, just beside them, between them and far away, each with both sides."""
    near = sorted(set(values))
    told = {Fraction(-10 ** 6), Fraction(10 ** 6)}
    for value in near:
        told |= {value, value - Fraction(1, 1000), value + Fraction(1, 1000)}
    told |= {(one + other) / 2 for one, other in zip(near, near[1:])}
    return [(pair(value), side) for value in sorted(told) for side in (0, 1)]


def slow_ends(many, marks, place):
    """The ends of a place, by the words of the document."""
    value = number(place[0])
    for mark in marks:
        if mark[0] == place[0]:
            return (mark[1], mark[2]) if place[1] == 0 else (mark[3], mark[4])
    lower = [mark[3] for mark in marks if number(mark[0]) < value]
    upper = [mark[2] for mark in marks if number(mark[0]) > value]
    return (lower[-1] if lower else 0), (upper[0] if upper else many)


def slow_openness(many, marks):
    """The greatest difference of the ends of a place."""
    told = [slow_ends(many, marks, place) for place in places_about([number(mark[0]) for mark in marks])]
    return max(high - low for low, high in told)
