"""Boxes: dicts that give each letter a stretch, and what terms come to in them."""

from boundsums.errors import ByNought
from boundsums.stretches import holding, least, minus, most, need_grid, need_stretch, over, plus, power, times
from boundsums.terms import letters_given


def stretch_of(grid, term, box):
    """The stretch of a term in a box."""
    return _reckoned(grid, term, need_box(grid, term, box))


def parted(box, name, at):
    """The box with a letter from its low to at, and the one with it from at to its high."""
    low, high = box[name]
    return ({**box, name: (low, at)}, {**box, name: (at, high)})


def need_box(grid, term, box):
    """A new box of a term's letters alone, names rising; refused where there is none."""
    need_grid(grid)
    return {name: need_stretch(box[name]) for name in letters_given(term, box)}


def stretch_or_none(grid, term, box):
    """The stretch of a term in a box that need_box told; None where it has none."""
    try:
        return _reckoned(grid, term, box)
    except ByNought:
        return None


def _reckoned(grid, term, box):
    word = term[0]
    if word == "letter":
        return box[term[1]]
    if word == "number":
        return holding(grid, (term[1], term[2]))
    one = _reckoned(grid, term[1], box)
    if word == "power":
        return power(grid, one, term[2])
    return _joined(grid, word, one, _reckoned(grid, term[2], box))


def _joined(grid, word, one, other):
    if word == "plus":
        return plus(grid, one, other)
    if word == "minus":
        return minus(grid, one, other)
    if word == "times":
        return times(grid, one, other)
    if word == "over":
        return over(grid, one, other)
    if word == "least":
        return least(grid, one, other)
    return most(grid, one, other)
