"""Showings that a term is above nought in a box: whether they are, and the search for one.

Showings can be as deep as a box is wide, so boxes that are still to be looked
at wait in a list, and nothing here calls itself.
"""

from boundsums.boxes import need_box, parted, stretch_or_none
from boundsums.errors import BadCount
from boundsums.fractions import fraction
from boundsums.kinds import is_whole_within, word_of
from boundsums.terms import value

MOST_BOXES = 500
PLAIN = ("plain",)
OPEN = ("open", None)


def is_showing(grid, term, box, thing):
    """Whether a thing of any kind shows that a term is above nought in a box."""
    waiting = [(need_box(grid, term, box), thing)]
    while waiting:
        here, told = waiting.pop()
        if _parts(told, here):
            low, high = parted(here, told[1], told[2])
            waiting.append((high, told[4]))
            waiting.append((low, told[3]))
        elif not _says_plain(told) or not _is_plain(grid, term, here):
            return False
    return True


def sought(grid, term, box, most=200):
    """A showing, a point where the term is not above nought, or neither."""
    waiting = [need_box(grid, term, box)]
    if not is_whole_within(most, 1, MOST_BOXES):
        raise BadCount("from 1 to 500 boxes may be looked at")
    steps = []
    while waiting:
        if len(steps) == most:
            return OPEN
        here = waiting.pop()
        if _is_plain(grid, term, here):
            steps.append(PLAIN)
            continue
        middle = _middle_of(here)
        if _is_met(grid, term, middle):
            return ("met", middle)
        name = _letter_to_part(here)
        if name is None:
            return OPEN
        steps.append(("parted", name, middle[name]))
        low, high = parted(here, name, middle[name])
        # The last that waits is looked at first: the one with the low.
        waiting.append(high)
        waiting.append(low)
    return ("shown", _showing_of(steps))


def _says_plain(thing):
    return word_of(thing) == "plain" and len(thing) == 1


def _parts(thing, box):
    """Whether a thing is a parting of a box, whatever is told of both its parts."""
    if word_of(thing) != "parted" or len(thing) != 5:
        return False
    name = thing[1]
    if type(name) is not str or name not in box:
        return False
    low, high = box[name]
    return is_whole_within(thing[2], low + 1, high - 1)


def _is_plain(grid, term, box):
    stretch = stretch_or_none(grid, term, box)
    return stretch is not None and stretch[0] > 0


def _middle_of(box):
    return {name: (low + high) // 2 for name, (low, high) in box.items()}


def _is_met(grid, term, places):
    worth = value(term, {name: fraction(place, grid) for name, place in places.items()})
    return worth is not None and worth[0] <= 0


def _letter_to_part(box):
    """The first by names of the letters with the widest stretch; None where none is wider than 1."""
    found = None
    widest = 1
    for name, (low, high) in box.items():
        if high - low > widest:
            found = name
            widest = high - low
    return found


def _showing_of(steps):
    """The showing whose steps were taken in this order: each box, its low part, its high part."""
    built = []
    for step in reversed(steps):
        if step == PLAIN:
            built.append(step)
        else:
            low = built.pop()
            high = built.pop()
            built.append((*step, low, high))
    return built.pop()
