"""Questions as texts, and sheets: texts of lines that make sketches and ask of them."""

from knownends.errors import BadSheet, NoQuestion, NoText
from knownends.kinds import is_room
from knownends.questions import (
    ends, is_question, perhaps_above, perhaps_first, surely_above, surely_first,
)
from knownends.sketches import bare, fed_many, poured
from knownends.streams import is_name, is_stream
from knownends.tallies import Tally

MOST_DIGITS = 12


def question_text(question):
    """The words of a question with a blank between."""
    if not is_question(question):
        raise NoQuestion()
    if question[0] == "lot":
        return " ".join(["lot", *question[1]])
    return " ".join([str(part) for part in question])


def read_question(text):
    """The question of which this is the text, or None."""
    if not isinstance(text, str):
        return None
    return _question(text.split(" "))


def _question(words):
    """The question of these words, or None."""
    word, *parts = words
    if word == "lot":
        question = ("lot", tuple(parts))
    elif word == "first":
        question = ("first", *[_number(part) for part in parts])
    else:
        question = tuple(words)
    return question if is_question(question) else None


def _number(word):
    """The number of which these are the digits, or None."""
    if not 1 <= len(word) <= MOST_DIGITS or not all(["0" <= sign <= "9" for sign in word]):
        return None
    return None if len(word) > 1 and word[0] == "0" else int(word)


# Each of the functions below does a line of one form, of which it gets the words behind the first one: it may change
# the dict of sketches, add to the list of lines that are told, and tells whether the line is of this form.


def _sketch(words, sketches, told):
    """A sketch is made."""
    if len(words) != 2 or not is_name(words[0]):
        return False
    room = _number(words[1])
    if not is_room(room):
        return False
    sketches[words[0]] = bare(room)
    return True


def _feed(words, sketches, told):
    """Items are fed."""
    if len(words) < 2 or words[0] not in sketches or not is_stream(tuple(words[1:])):
        return False
    tally = Tally(sketches[words[0]])
    for name in words[1:]:
        tally.gain(name, 1)
    sketches[words[0]] = tally.sketch()
    return True


def _times(words, sketches, told):
    """Many items of one name are fed."""
    if len(words) != 3 or words[0] not in sketches or not is_name(words[1]):
        return False
    times = _number(words[2])
    if times is None:
        return False
    sketches[words[0]] = fed_many(sketches[words[0]], words[1], times)
    return True


def _pour(words, sketches, told):
    """Two sketches are poured together."""
    if len(words) != 3 or not is_name(words[0]) or words[1] not in sketches or words[2] not in sketches:
        return False
    one = sketches[words[1]]
    other = sketches[words[2]]
    if one[0] != other[0]:
        return False
    sketches[words[0]] = poured(one, other)
    return True


def _ask(words, sketches, told):
    """The ends of a question are told."""
    if len(words) < 2 or words[0] not in sketches:
        return False
    question = _question(words[1:])
    if question is None:
        return False
    low, high = ends(sketches[words[0]], question)
    told.append(f"{low} {high}")
    return True


def _above(words, sketches, told):
    """The names whose counts are above a number are told."""
    if len(words) != 2 or words[0] not in sketches:
        return False
    most = _number(words[1])
    if most is None:
        return False
    sketch = sketches[words[0]]
    told.append(_names_text(surely_above(sketch, most), perhaps_above(sketch, most)))
    return True


def _first(words, sketches, told):
    """The names that are first are told."""
    if len(words) != 1 or words[0] not in sketches:
        return False
    sketch = sketches[words[0]]
    name = surely_first(sketch)
    told.append(_names_text(() if name is None else (name,), perhaps_first(sketch)))
    return True


def _names_text(surely, perhaps):
    """The line of the names that are surely so, and of those that perhaps are."""
    names, is_other = perhaps
    words = [*surely, "/", *names]
    return " ".join(words + ["*"] if is_other else words)


FORMS = {
    "sketch": _sketch, "feed": _feed, "times": _times, "pour": _pour, "ask": _ask, "above": _above, "first": _first,
}


def run_sheet(text):
    """The list of the lines that a sheet tells."""
    if not isinstance(text, str):
        raise NoText()
    sketches = {}
    told = []
    rows = text.split("\n") if text else []
    for at, row in enumerate(rows, start=1):
        if not _is_done(row, sketches, told):
            raise BadSheet(at)
    return told


def _is_done(row, sketches, told):
    """Does a line; whether that is possible."""
    word, *words = row.split(" ")
    if word not in FORMS:
        return False
    form = FORMS[word]
    return form(words, sketches, told)
