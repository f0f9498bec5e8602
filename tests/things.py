"""Things of every kind that the tests hand in, shared by all of them."""

THIRTY = 123456789012345678901234567890


class Unruly:
    """Can't be compared, hashed, measured, counted with or asked for truth."""

    def refuse(self, *rest):
        raise RuntimeError("a strange thing was asked something")

    __eq__ = __ne__ = __lt__ = __le__ = __gt__ = __ge__ = refuse
    __hash__ = __bool__ = __len__ = __iter__ = __getitem__ = refuse
    __index__ = __int__ = __neg__ = __abs__ = __contains__ = refuse
    __add__ = __radd__ = __mul__ = __rmul__ = __mod__ = __rmod__ = refuse
    __str__ = __repr__ = refuse


# None of these is a whole number, a text of letters, a tuple of two or more
# parts, or holds such where it counts.
STRANGE = [
    None, True, False, "", "1", b"1", 1.0, 0.5, float("nan"), float("inf"), 1j,
    (), [], {}, set(), frozenset(), object(), Unruly(), int, len, range(3), iter([1, 2]),
]

# What is no stretch, and no pair that a fraction could be told by.
NO_PAIRS = STRANGE + [
    0, 1, -3, THIRTY, "ab", [1, 2], [0, 1], {1: 2, 3: 4}, (1,), (1, 2, 3), ((1, 2),),
    (1, None), (None, 1), (True, 2), (0, True), (False, True), (1.0, 2), (1, 2.0),
    ("1", "2"), ([1], 2), (1, (2,)), (Unruly(), 1), (1, Unruly()), (1j, 1),
]


def refusal(deed, *rest):
    """The class of what a deed raises, or None where it raises nothing."""
    try:
        deed(*rest)
    except Exception as error:
        return type(error)
    return None
