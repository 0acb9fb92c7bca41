"""Names in their order by length, then alphabet, for where any name will do."""

LETTERS = "abcdefghijklmnopqrstuvwxyz"


def name_at(index):
    """The name with this index: a, b, .., z, aa, ab, .."""
    letters = ""
    left = index + 1
    while left > 0:
        left, place = divmod(left - 1, 26)
        letters = LETTERS[place] + letters
    return letters


def least_names(many):
    """The list of so many least names."""
    return [name_at(index) for index in range(many)]


def fresh_names(many, known):
    """The list of the so many least names that a dict of known names doesn't have."""
    found = [name for name in least_names(many + len(known)) if name not in known]
    return found[:many]
