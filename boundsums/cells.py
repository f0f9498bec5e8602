"""Cells: the places of a stretch where a term may come to nought, or to none."""

from boundsums.boxes import stretch_or_none
from boundsums.errors import BadCount, BadStretch
from boundsums.stretches import need_grid, need_stretch
from boundsums.terms import letters

WIDEST = 1000


def cells(grid, term, stretch):
    """The cells of a term with one letter at most on a stretch, rising."""
    need_grid(grid)
    names = letters(term)
    if len(names) > 1:
        raise BadCount("cells are told of a term with one letter at most")
    low, high = need_stretch(stretch)
    if high - low > WIDEST:
        raise BadStretch("cells are told on a stretch at most 1000 wide")
    if low == high:
        return []
    return _cells_between(grid, term, names, low, high)


def _cells_between(grid, term, names, low, high):
    if not _may_be_nought(grid, term, {name: (low, high) for name in names}):
        return []
    if high - low == 1:
        return [low]
    middle = (low + high) // 2
    first = _cells_between(grid, term, names, low, middle)
    return first + _cells_between(grid, term, names, middle, high)


def _may_be_nought(grid, term, box):
    stretch = stretch_or_none(grid, term, box)
    return stretch is None or stretch[0] <= 0 <= stretch[1]
