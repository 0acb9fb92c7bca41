"""Of what kind a value is: what several files of the package ask of values."""


def is_int(thing):
    """Whether it is an integer; a flag is none."""
    return isinstance(thing, int) and not isinstance(thing, bool)


def is_plain(thing):
    """Whether it is a string of signs from the blank to ~ alone."""
    return isinstance(thing, str) and all([" " <= sign <= "~" for sign in thing])


def is_text(thing):
    """Whether it is a string of signs from the blank to ~ and line feeds alone."""
    return isinstance(thing, str) and is_plain(thing.replace("\n", ""))
