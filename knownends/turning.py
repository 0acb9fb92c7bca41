"""Number trees that are turned so that an end of a rank sketch is the truth."""

from knownends.errors import NoPlace, NoRoom, NoSide, NoTree
from knownends.kinds import is_room
from knownends.ranks import nodes_of
from knownends.ratios import ascending, between, is_at, is_less, is_number_tree, is_place, is_side, items_of


def turned_tree(room, tree, place, side):
    """A number tree with the same rank sketch, of whose items just as many are at the place as an end tells.

    The end at the place comes from a mark of the sketch: from the place itself if that is a mark's, else from the next
    mark on the asked side. What is told of that mark comes in the same way from marks of the two that were poured, and
    so on, up to a mark of each stream, its BOUND. The items between the bound and the place are carried to the other
    side of the place, close by, in their order. A sketch on the way has no marks between its own bound and that of
    what it was poured into. So either both carry a mark or both leave it, each sketch keeps the marks that it kept,
    and of the last one no mark is carried.
    """
    if not is_room(room):
        raise NoRoom()
    if not is_number_tree(tree):
        raise NoTree()
    if not is_place(place):
        raise NoPlace()
    if not is_side(side):
        raise NoSide()
    bounds = _bounds(nodes_of(room, tree), place, side)
    images = _images(ascending(items_of(tree)), place[0], side)
    turned = []
    for step, bound in zip(tree, bounds):
        if step[0] == "numbers" and bound != place:
            turned.append(("numbers", tuple([_carried(item, bound, images, side) for item in step[1]])))
        else:
            turned.append(step)
    return tuple(turned)


def _bounds(nodes, place, side):
    """For each step the place of a mark of its rank sketch from which the end at the place comes, or None."""
    bounds = [place] * len(nodes)
    # What was poured stands ahead of what it was poured into.
    for at in reversed(range(len(nodes))):
        ranks, parts = nodes[at]
        bounds[at] = _bound(ranks, bounds[at], side)
        for part in parts:
            bounds[part] = bounds[at]
    return bounds


def _bound(ranks, place, side):
    """The place of a mark from which the end at a place comes; None if there is no mark on that side, or no place."""
    if place is None:
        return None
    values = [mark[0] for mark in ranks[2]]
    if place[0] in values:
        return place
    if side == 0:
        lower = [value for value in values if is_less(value, place[0])]
        return (lower[-1], 1) if lower else None
    upper = [value for value in values if is_less(place[0], value)]
    return (upper[0], 0) if upper else None


def _images(known, value, side):
    """Where each of some ascending fractions that may be carried goes: just beyond a value, ahead of the next fraction.

    For the least end those up to the value may be carried up, for the greatest end those from it on may be carried
    down.
    """
    lower = [item for item in known if is_less(item, value)]
    upper = [item for item in known if is_less(value, item)]
    top, bottom = value
    if side == 0:
        movers = known[:len(known) - len(upper)]
        low = value
        high = upper[0] if upper else (top + bottom, bottom)
    else:
        movers = known[len(lower):]
        low = lower[-1] if lower else (top - bottom, bottom)
        high = value
    return {item: between(low, high, at, len(movers) + 1) for at, item in enumerate(movers, start=1)}


def _carried(item, bound, images, side):
    """Where an item of a stream with this bound goes; it stays unless it is between the bound and the place."""
    if item not in images:
        return item
    if bound is None:
        return images[item]
    return images[item] if is_at(item, bound) == (side == 1) else item
