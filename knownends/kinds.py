"""Of what kind a value is: what several files of the package ask of values."""

MOST_ROOM = 64


def is_int(thing):
    """Whether it is an integer; a flag is none."""
    return isinstance(thing, int) and not isinstance(thing, bool)


def is_number(thing):
    """Whether it is an integer from 0 on."""
    return is_int(thing) and thing >= 0


def is_room(thing):
    """Whether it is a number of names that a sketch may keep."""
    return is_int(thing) and 1 <= thing <= MOST_ROOM


def is_plain(thing):
    """Whether it is a string of signs from the blank to ~ alone."""
    return isinstance(thing, str) and all([" " <= sign <= "~" for sign in thing])


def is_text(thing):
    """Whether it is a string of signs from the blank to ~ and line feeds alone."""
    return isinstance(thing, str) and is_plain(thing.replace("\n", ""))
