"""Things of every kind that the tests hand in, shared by all of them.

What the program should tell is reckoned here by the library's own fractions.
"""

import random
from fractions import Fraction
from math import ceil, floor

THIRTY = 123456789012345678901234567890


class Unruly:
    """Can't be compared, hashed, measured, counted with or asked for truth."""

    def refuse(self, *rest):
        raise RuntimeError("a strange thing was asked something")

    __eq__ = __ne__ = __lt__ = __le__ = __gt__ = __ge__ = refuse
    __hash__ = __bool__ = __len__ = __iter__ = __getitem__ = refuse
    __index__ = __int__ = __neg__ = __abs__ = __contains__ = refuse
    __add__ = __radd__ = __mul__ = __rmul__ = __mod__ = __rmod__ = refuse
    __str__ = __repr__ = refuse


# None of these is a whole number, a text of letters, a tuple of two or more
# parts, or holds such where it counts.
STRANGE = [
    None, True, False, "", "1", b"1", 1.0, 0.5, float("nan"), float("inf"), 1j,
    (), [], {}, set(), frozenset(), object(), Unruly(), int, len, range(3), iter([1, 2]),
]

# What is no stretch, and no pair that a fraction could be told by.
NO_PAIRS = STRANGE + [
    0, 1, -3, THIRTY, "ab", [1, 2], [0, 1], {1: 2, 3: 4}, (1,), (1, 2, 3), ((1, 2),),
    (1, None), (None, 1), (True, 2), (0, True), (False, True), (1.0, 2), (1, 2.0),
    ("1", "2"), ([1], 2), (1, (2,)), (Unruly(), 1), (1, Unruly()), (1j, 1),
]


def refusal(deed, *rest):
    """The class of what a deed raises, or None where it raises nothing."""
    try:
        deed(*rest)
    except Exception as error:
        return type(error)
    return None


WORDS = ["plus", "minus", "times", "over", "least", "most"]


def some_terms(names, many, deep, seed=1):
    """Many terms of letters of these names, none deeper than deep; the same ones each time."""
    chance = random.Random(seed)
    return [_some_term(chance, names, deep) for _ in range(many)]


def _some_term(chance, names, deep):
    if deep == 1 or chance.randrange(5) == 0:
        if chance.randrange(3) > 0:
            return ("letter", chance.choice(names))
        exact = Fraction(chance.randrange(-9, 10), chance.randrange(1, 7))
        return ("number", exact.numerator, exact.denominator)
    if chance.randrange(6) == 0:
        return ("power", _some_term(chance, names, deep - 1), chance.randrange(0, 4))
    return (chance.choice(WORDS), _some_term(chance, names, deep - 1), _some_term(chance, names, deep - 1))


def some_boxes(names, many, widest, seed=1):
    """Many boxes that give each of these names a stretch, none wider than widest."""
    chance = random.Random(seed)
    found = []
    for _ in range(many):
        box = {}
        for name in names:
            low = chance.randrange(-widest, widest + 1)
            box[name] = (low, low + chance.randrange(0, widest + 1))
        found.append(box)
    return found


def held(grid, values):
    """The least stretch on the grid in which exact values lie."""
    return (floor(min(values) * grid), ceil(max(values) * grid))


def ends(grid, stretch):
    return [Fraction(stretch[0], grid), Fraction(stretch[1], grid)]


def pair(one, other, word):
    """Two exact values joined by a word."""
    return {
        "plus": lambda: one + other, "minus": lambda: one - other, "times": lambda: one * other,
        "over": lambda: one / other, "least": lambda: min(one, other), "most": lambda: max(one, other),
    }[word]()


def exact_value(term, point):
    """What a term comes to where letters are exact fractions; None where that is none."""
    if term[0] == "letter":
        return point[term[1]]
    if term[0] == "number":
        return Fraction(term[1], term[2])
    one = exact_value(term[1], point)
    if term[0] == "power":
        return None if one is None else one ** term[2]
    other = exact_value(term[2], point)
    if one is None or other is None or (term[0] == "over" and other == 0):
        return None
    return pair(one, other, term[0])


def exact_stretch(grid, term, box):
    """The stretch of a term in a box, as [8] tells it; None where it has none."""
    if term[0] == "letter":
        return box[term[1]]
    if term[0] == "number":
        return held(grid, [Fraction(term[1], term[2])])
    one = exact_stretch(grid, term[1], box)
    if term[0] == "power":
        return None if one is None else _exact_power(grid, one, term[2])
    other = exact_stretch(grid, term[2], box)
    if one is None or other is None or (term[0] == "over" and other[0] <= 0 <= other[1]):
        return None
    return held(grid, [pair(x, y, term[0]) for x in ends(grid, one) for y in ends(grid, other)])


def _exact_power(grid, one, count):
    turns = ends(grid, one) + [Fraction(0)] * (one[0] <= 0 <= one[1])
    return held(grid, [worth ** count for worth in turns])
