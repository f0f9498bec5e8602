"""Texts of terms: written just so, and read only where they are written so."""

from boundsums.errors import BadTerm, BadText
from boundsums.terms import DEEPEST, SMALL_LETTERS, need_term

SIGNS = {"plus": "+", "minus": "-", "times": "*", "over": "/"}
WORDS = {"+": "plus", "-": "minus", "*": "times", "/": "over"}
CALLED = ("least", "most")
FIGURES = "0123456789"
MOST_FIGURES = 12


def written(term):
    """The text of a term."""
    need_term(term)
    return _text_of(term)


def read(text):
    """The term of which a text is written; all else is refused."""
    if type(text) is not str:
        raise BadText("a term is read from a text")
    term, _ = _term_at(text, 0, DEEPEST)
    # What is read may still be beyond a term's limits, be written otherwise
    # (03 for 3), or end before the text does.
    if not _is_text_of(term, text):
        raise BadText("this is not written as a term is")
    return term


def _text_of(term):
    word = term[0]
    if word == "letter":
        return term[1]
    if word == "number":
        return str(term[1]) if term[2] == 1 else f"{term[1]}/{term[2]}"
    one = _text_of(term[1])
    if word == "power":
        return f"({one} ^ {term[2]})"
    other = _text_of(term[2])
    if word in CALLED:
        return f"{word}({one}, {other})"
    return f"({one} {SIGNS[word]} {other})"


def _is_text_of(term, text):
    try:
        return written(term) == text
    except BadTerm:
        return False


def _term_at(text, place, deep):
    """The term that begins at a place, and the place behind it; refused where deeper than deep."""
    if deep == 0:
        raise BadText("a term is at most 12 deep")
    for word in CALLED:
        if text.startswith(f"{word}(", place):
            return _called_at(text, place, word, deep)
    if text.startswith("(", place):
        return _bracket_at(text, place, deep)
    end = _end_of_run(text, place, SMALL_LETTERS)
    if end > place:
        return ("letter", text[place:end]), end
    return _number_at(text, place)


def _called_at(text, place, word, deep):
    one, place = _term_at(text, place + len(word) + 1, deep - 1)
    place = _behind(text, place, ", ")
    other, place = _term_at(text, place, deep - 1)
    return (word, one, other), _behind(text, place, ")")


def _bracket_at(text, place, deep):
    one, place = _term_at(text, place + 1, deep - 1)
    sign = text[place + 1:place + 2]
    place = _behind(text, place, f" {sign} ")
    if sign == "^":
        count, place = _whole_at(text, place)
        return ("power", one, count), _behind(text, place, ")")
    if sign not in WORDS:
        raise BadText("between two terms stands one of + - * /")
    other, place = _term_at(text, place, deep - 1)
    return (WORDS[sign], one, other), _behind(text, place, ")")


def _number_at(text, place):
    top, place = _whole_at(text, place)
    if not text.startswith("/", place):
        return ("number", top, 1), place
    bottom, place = _whole_at(text, place + 1)
    return ("number", top, bottom), place


def _whole_at(text, place):
    start = place + 1 if text.startswith("-", place) else place
    end = _end_of_run(text, start, FIGURES)
    # Asked before it is made a number, which Python refuses of too many figures.
    if not 1 <= end - start <= MOST_FIGURES:
        raise BadText("a whole number has 1 to 12 figures")
    return int(text[place:end]), end


def _end_of_run(text, place, signs):
    """The first place from this one on where none of these signs stands."""
    while place < len(text) and text[place] in signs:
        place += 1
    return place


def _behind(text, place, signs):
    """The place behind these signs; refused where they do not stand here."""
    if not text.startswith(signs, place):
        raise BadText(f"here should stand {signs}")
    return place + len(signs)
