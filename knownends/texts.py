"""Things as texts, from which they are read again, and texts that are sealed by a check."""

from knownends.errors import BadText, NoText, NoThing
from knownends.kinds import is_int, is_plain, is_text

DEEPEST = 30
MOST_DIGITS = 30
# A prime, so that no sign's number times its place is lost in it as long as texts are shorter.
CHECKS = 99991


def packed(thing):
    """The text of a thing."""
    return _text_of(thing, 0)


def _text_of(thing, depth):
    """The text of a thing that stands within so many tuples."""
    if isinstance(thing, tuple):
        if depth == DEEPEST:
            raise NoThing()
        return "(" + ",".join([_text_of(item, depth + 1) for item in thing]) + ")"
    if thing is None:
        return "."
    # Compared, not measured by its digits: Python refuses to write down integers of very many digits.
    if is_int(thing) and abs(thing) < 10 ** 30:
        return str(thing)
    if is_plain(thing):
        return "'" + thing.replace("~", "~~").replace("'", "~'") + "'"
    raise NoThing()


def unpacked(text):
    """The thing of which this is the text."""
    if not isinstance(text, str):
        raise BadText(-1)
    # The outermost list gets the thing itself; each further one is a tuple that is not closed yet.
    pile = [[]]
    place = 0
    while not pile[0]:
        if text[place:place + 1] == "(":
            place = _entered(text, place, pile)
        else:
            thing, place = _single(text, place)
            pile[-1].append(thing)
            place = _left(text, place, pile)
    if place < len(text):
        raise BadText(place)
    return pile[0][0]


def _entered(text, place, pile):
    """Opens the tuple at this place; tells the place at which to read on."""
    if len(pile) > DEEPEST:
        raise BadText(place)
    pile.append([])
    # Only here may a tuple close although no item stands ahead.
    if text[place + 1:place + 2] == ")":
        return _left(text, place + 1, pile)
    return place + 1


def _left(text, place, pile):
    """Closes the tuples that end at this place, behind an item; tells the place at which to read on."""
    while len(pile) > 1:
        sign = text[place:place + 1]
        if sign == ",":
            return place + 1
        if sign != ")":
            raise BadText(place)
        items = pile.pop()
        pile[-1].append(tuple(items))
        place += 1
    return place


def _single(text, place):
    """The thing at this place that is no tuple, and the place behind it."""
    sign = text[place:place + 1]
    if sign == ".":
        return None, place + 1
    if sign == "'":
        return _quoted(text, place + 1)
    return _written(text, place)


def _quoted(text, place):
    """The string whose first sign has this place, and the place behind its closing quote."""
    signs = []
    while text[place:place + 1] != "'":
        if text[place:place + 1] == "~":
            place += 1
            if text[place:place + 1] not in ("'", "~"):
                raise BadText(place)
        sign = text[place:place + 1]
        if not " " <= sign <= "~":
            raise BadText(place)
        signs.append(sign)
        place += 1
    return "".join(signs), place + 1


def _written(text, place):
    """The integer at this place, and the place behind it."""
    below = text[place:place + 1] == "-"
    first = place + 1 if below else place
    if text[first:first + 1] == "0" and not below:
        return 0, first + 1
    if not "1" <= text[first:first + 1] <= "9":
        raise BadText(first)
    end = first + 1
    while end < first + MOST_DIGITS and "0" <= text[end:end + 1] <= "9":
        end += 1
    return int(text[place:end]), end


def check(text):
    """The number by which a text is checked: of all its signs, each times its place."""
    if not is_text(text):
        raise NoText()
    return check_behind(0, 0, text)


def check_behind(total, many, text):
    """The check of a text of so many signs, which has this check itself, and a second text behind it."""
    for place, sign in enumerate(text, start=many + 1):
        total += place * _number_of(sign)
    return total % CHECKS


def _number_of(sign):
    """The number of a sign: 0 for the line feed, 1 for the blank, and so on to 95 for ~."""
    return 0 if sign == "\n" else ord(sign) - 31


def sealed(thing):
    """The text of a thing and its check behind it."""
    text = packed(thing)
    return text + "#" + str(check(text))


def unsealed(text):
    """The tuple of just the thing of which this is the sealed text; an empty one for any other value."""
    if not isinstance(text, str):
        return ()
    # The check has no # in it, so the last one divides the text, whatever strings stand ahead.
    ahead, _, digits = text.rpartition("#")
    try:
        thing = unpacked(ahead)
    except BadText:
        return ()
    return (thing,) if digits == str(check(ahead)) else ()
