"""What kind a thing is, asked alike by all files of the package.

The very kind is asked before anything else, so that nothing of a strange
thing, not even its way to compare, is ever run.
"""

GREATEST_POWER = 8


def is_whole(thing):
    """Whether it is a whole number; True and False are none."""
    return type(thing) is int


def is_whole_within(thing, low, high):
    """Whether it is a whole number from low to high."""
    return is_whole(thing) and low <= thing <= high


def is_power_count(thing):
    """Whether a value may be so many times multiplied with itself."""
    return is_whole_within(thing, 0, GREATEST_POWER)


def is_pair_of_wholes(thing):
    """Whether it is a tuple of two whole numbers."""
    if type(thing) is not tuple or len(thing) != 2:
        return False
    return is_whole(thing[0]) and is_whole(thing[1])


def word_of(thing):
    """The word that a tuple begins with; None where a thing has none."""
    if type(thing) is tuple and len(thing) > 0 and type(thing[0]) is str:
        return thing[0]
    return None
