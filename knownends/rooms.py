"""How much room is enough, and which streams and sketches are the worst."""

from knownends.errors import NoNumber, NoQuestion, NoRoom
from knownends.kinds import is_number, is_room
from knownends.naming import least_names
from knownends.questions import is_question

MOST_MANY = 10 ** 12
LONGEST = 2000


def _is_many(thing):
    """Whether it is a number of items of which is asked how much may be taken off."""
    return is_number(thing) and thing <= MOST_MANY


def most_off(room, many):
    """The greatest number that is taken off in a sketch of so many items."""
    if not is_room(room):
        raise NoRoom()
    if not _is_many(many):
        raise NoNumber()
    return many // (room + 1)


def room_for(many, most):
    """The least room with which, of so many items, no more than most is taken off."""
    if not _is_many(many) or not _is_many(most):
        raise NoNumber()
    return max(1, many // (most + 1))


def in_rounds(names, many):
    """The stream of so many items that goes over these names again and again."""
    return tuple([names[at % len(names)] for at in range(many)])


def worst(room, many):
    """A stream of so many items of which as much is taken off as can be."""
    if not is_room(room):
        raise NoRoom()
    if not is_number(many) or many > LONGEST:
        raise NoNumber()
    return in_rounds(least_names(room + 1), many)


def widest(room, many, question):
    """The greatest difference of the ends of a question for all sketches of at most so many items."""
    off = most_off(room, many)
    if not is_question(question) or question[0] not in ("count", "lot", "apart"):
        raise NoQuestion()
    if question[0] == "count":
        return off
    if question[0] == "apart":
        return 2 * off
    # Of a lot no more can have been taken than was lost, that is from 2 * room names at most, and no more than many.
    return min(many, off * min(2 * room, len(question[1])))
