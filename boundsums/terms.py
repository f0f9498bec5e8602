"""Terms: tuples of letters, numbers and what is reckoned of them."""

from boundsums.errors import BadTerm, NoLetter
from boundsums.fractions import added, compared, divided, is_fraction, multiplied, need_fraction, taken
from boundsums.kinds import is_power_count, is_whole_within, word_of

PAIRED = ("plus", "minus", "times", "over", "least", "most")
SMALL_LETTERS = "abcdefghijklmnopqrstuvwxyz"
LONGEST_NAME = 8
GREATEST_NUMBER = 10 ** 12 - 1
MOST_PARTS = 60
DEEPEST = 12


def need_term(thing):
    """The same term; what is none is refused."""
    if _parts_of(thing, DEEPEST) > MOST_PARTS:
        raise BadTerm("a term has at most 60 parts")
    return thing


def letters(term):
    """The names of a term's letters, rising, each once."""
    need_term(term)
    return sorted(set(_names_in(term)))


def letters_given(term, given):
    """The names of a term's letters, rising; the first that is not given is refused."""
    names = letters(term)
    for name in names:
        if not isinstance(given, dict) or name not in given:
            raise NoLetter(name)
    return names


def value(term, point):
    """What a term comes to at a point; None where it is divided by nought."""
    names = letters_given(term, point)
    return _worth(term, {name: need_fraction(point[name]) for name in names})


def _parts_of(thing, deep):
    """How many parts a term has; refused where it is none, or deeper than deep."""
    if deep == 0:
        raise BadTerm("a term is at most 12 deep")
    word = word_of(thing)
    if word == "letter" and _is_letter(thing):
        return 1
    if word == "number" and _is_number(thing):
        return 1
    if word == "power" and _is_power(thing):
        return 1 + _parts_of(thing[1], deep - 1)
    if word in PAIRED and len(thing) == 3:
        return 1 + _parts_of(thing[1], deep - 1) + _parts_of(thing[2], deep - 1)
    raise BadTerm("this is no term")


def _is_letter(thing):
    return len(thing) == 2 and _is_name(thing[1])


def _is_name(thing):
    if type(thing) is not str or not 1 <= len(thing) <= LONGEST_NAME:
        return False
    return all(sign in SMALL_LETTERS for sign in thing)


def _is_number(thing):
    if len(thing) != 3 or not is_whole_within(thing[1], -GREATEST_NUMBER, GREATEST_NUMBER):
        return False
    return is_whole_within(thing[2], 1, GREATEST_NUMBER) and is_fraction((thing[1], thing[2]))


def _is_power(thing):
    return len(thing) == 3 and is_power_count(thing[2])


def _names_in(term):
    if term[0] == "letter":
        return [term[1]]
    if term[0] == "number":
        return []
    if term[0] == "power":
        return _names_in(term[1])
    return _names_in(term[1]) + _names_in(term[2])


def _worth(term, point):
    if term[0] == "letter":
        return point[term[1]]
    if term[0] == "number":
        return (term[1], term[2])
    if term[0] == "power":
        return _raised(_worth(term[1], point), term[2])
    return _joined(term[0], _worth(term[1], point), _worth(term[2], point))


def _raised(worth, count):
    # Asked before the count: to the power 0, too, a part that is none stays none.
    if worth is None:
        return None
    top, bottom = 1, 1
    for _ in range(count):
        top = top * worth[0]
        bottom = bottom * worth[1]
    # Lowest terms stay so: to look for a common divisor again would take long.
    return (top, bottom)


def _joined(word, one, other):
    if one is None or other is None:
        return None
    if word == "plus":
        return added(one, other)
    if word == "minus":
        return taken(one, other)
    if word == "times":
        return multiplied(one, other)
    if word == "over":
        return None if other[0] == 0 else divided(one, other)
    if word == "least":
        return one if compared(one, other) <= 0 else other
    return one if compared(one, other) >= 0 else other
