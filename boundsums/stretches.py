"""Stretches on a grid: tuples (low, high), reckoned outward.

What is told of stretches is the least stretch in which all values lie. Each
of these deeds is greatest and least at the ends of what it is given, or at
nought, so only these are reckoned.
"""

from boundsums.errors import BadCount, BadGrid, BadStretch, ByNought
from boundsums.fractions import need_fraction
from boundsums.kinds import is_pair_of_wholes, is_power_count, is_whole_within

FINEST_GRID = 10 ** 9


def need_grid(grid):
    """Refuse what is no grid."""
    if not is_whole_within(grid, 1, FINEST_GRID):
        raise BadGrid("a grid is a whole number from 1 to 1000000000")


def need_stretch(thing):
    """The same stretch; what is none is refused."""
    if not is_pair_of_wholes(thing):
        raise BadStretch("a stretch is a tuple of two whole numbers")
    if thing[0] > thing[1]:
        raise BadStretch("the low of a stretch is not above its high")
    return thing


def holding(grid, p):
    """The least stretch in which a fraction lies."""
    need_grid(grid)
    top, bottom = need_fraction(p)
    return _outward(top * grid, top * grid, bottom)


def lies_in(grid, stretch, p):
    """Whether a fraction lies in a stretch, the ends included."""
    need_grid(grid)
    low, high = need_stretch(stretch)
    top, bottom = need_fraction(p)
    return low * bottom <= top * grid <= high * bottom


def plus(grid, one, other):
    """Each value of the one and each of the other, together."""
    _need_two(grid, one, other)
    return (one[0] + other[0], one[1] + other[1])


def minus(grid, one, other):
    """Each value of the one less each of the other."""
    _need_two(grid, one, other)
    return (one[0] - other[1], one[1] - other[0])


def times(grid, one, other):
    """Each value of the one times each of the other."""
    _need_two(grid, one, other)
    products = [first * second for first in one for second in other]
    return _outward(min(products), max(products), grid)


def over(grid, one, other):
    """Each value of the one by each of the other, in which nought may not lie."""
    _need_two(grid, one, other)
    if other[0] <= 0 <= other[1]:
        raise ByNought("nought lies in the stretch that is divided by")
    quotients = [_outward(first * grid, first * grid, second) for first in one for second in other]
    return (min([low for low, _ in quotients]), max([high for _, high in quotients]))


def least(grid, one, other):
    """The lesser of each value of the one and each of the other."""
    _need_two(grid, one, other)
    return (min(one[0], other[0]), min(one[1], other[1]))


def most(grid, one, other):
    """The greater of each value of the one and each of the other."""
    _need_two(grid, one, other)
    return (max(one[0], other[0]), max(one[1], other[1]))


def contrary(grid, one):
    """Each value less than nought by as much as it is above."""
    need_grid(grid)
    low, high = need_stretch(one)
    return (-high, -low)


def power(grid, one, count):
    """Each value so many times multiplied with itself; 1 where that is 0 times."""
    need_grid(grid)
    low, high = need_stretch(one)
    if not is_power_count(count):
        raise BadCount("a power is a whole number from 0 to 8")
    if count == 0:
        return (grid, grid)
    ends = [_raised(low, count), _raised(high, count)]
    if count % 2 == 0 and low < 0 < high:
        ends.append(0)
    return _outward(min(ends), max(ends), _raised(grid, count - 1))


def _need_two(grid, one, other):
    need_grid(grid)
    need_stretch(one)
    need_stretch(other)


def _outward(low, high, bottom):
    """Both divided by the bottom, the low made whole downward, the high upward."""
    return (low // bottom, -(-high // bottom))


def _raised(whole, count):
    raised = 1
    for _ in range(count):
        raised = raised * whole
    return raised
