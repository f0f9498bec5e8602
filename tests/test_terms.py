import copy
import unittest
from fractions import Fraction

from boundsums.errors import BadTerm, NoLetter
from boundsums.terms import letters, need_term, value
from tests.things import STRANGE, THIRTY, WORDS, Unruly, refusal

A = ("letter", "a")
B = ("letter", "b")
ONE = ("number", 1, 1)
NOUGHT = ("number", 0, 1)
BROKEN = ("over", ONE, NOUGHT)


def deep(levels, word="plus"):
    """A term that is so many levels deep, with 2 parts to each but the last."""
    term = A
    for _ in range(levels - 1):
        term = (word, term, ONE)
    return term


def raised(term, levels):
    for _ in range(levels):
        term = ("power", term, 1)
    return term


def full(leaves, leaf=A):
    """A shallow term of so many leaves: twice as many parts, less one."""
    if leaves == 1:
        return leaf
    return ("plus", full(leaves // 2, leaf), full(leaves - leaves // 2, leaf))


GOOD = [
    A, ("letter", "abcdefgh"), ("letter", "z"), ("letter", "least"), ("letter", "letter"),
    ONE, NOUGHT, ("number", -1, 2), ("number", 10 ** 12 - 1, 1), ("number", 1 - 10 ** 12, 1),
    ("number", 1, 10 ** 12 - 1), ("number", -999999999999, 999999999998),
    ("power", A, 0), ("power", A, 8), ("power", NOUGHT, 0), BROKEN,
    ("plus", A, A), ("minus", A, B), ("times", A, ONE), ("over", A, NOUGHT), ("least", A, B), ("most", A, B),
    deep(12), raised(A, 11), full(30), ("power", full(29), 2), ("plus", raised(full(29), 1), A),
    raised(full(30), 1), full(30, ONE), raised(full(30, ONE), 1), full(15, ("most", A, NOUGHT)),
]

BAD = STRANGE + [
    "letter", "a", 1, THIRTY, ["letter", "a"], {"letter": "a"},
    ("letter",), ("letter", "a", "b"), ("letter", ""), ("letter", "abcdefghi"), ("letter", "A"),
    ("letter", "aB"), ("letter", "a1"), ("letter", "a b"), ("letter", "a_"), ("letter", " a"),
    ("letter", "a\n"), ("letter", "\u00e4"), ("letter", "\u0430"), ("letter", b"a"), ("letter", None),
    ("letter", 1), ("letter", ["a"]), ("letter", ("a",)), ("letter", True), ("letter", Unruly()),
    ("number",), ("number", 1), ("number", 1, 1, 1), ("number", 1, 0), ("number", 0, 0), ("number", 1, -2),
    ("number", 2, 4), ("number", 0, 2), ("number", 3, 3), ("number", 10 ** 12, 1), ("number", -10 ** 12, 1),
    ("number", 1, 10 ** 12), ("number", 10 ** 5000, 1), ("number", 1, 10 ** 5000 + 1),
    ("number", True, 1), ("number", 1, True), ("number", False, 1), ("number", 1.0, 1), ("number", 1, 1.0),
    ("number", None, 1), ("number", "1", 1), ("number", 1, "1"), ("number", (1, 1), 1), ("number", (1, 1)),
    ("number", Unruly(), 1), ("number", 1, Unruly()),
    ("power",), ("power", A), ("power", A, 1, 1), ("power", A, -1), ("power", A, 9), ("power", A, True),
    ("power", A, False), ("power", A, 2.0), ("power", A, None), ("power", A, ONE), ("power", A, THIRTY),
    ("power", 2, A), ("power", "a", 2), ("power", None, 2), ("power", ["letter", "a"], 2), ("power", A, Unruly()),
    ("sum", A, B), ("Plus", A, B), ("plus ", A, B), ("", A, B), ("+", A, B), ("contrary", A), ("sin", A),
    (None, A, B), (1, A, B), (True, A, B), (b"plus", A, B), (["plus"], A, B), (("plus",), A, B), (Unruly(), A, B),
    (A, B), (A, A, A), deep(13), raised(A, 12), raised(full(30), 2), full(31), ("plus", full(30), A),
    raised(full(30, ONE), 2), full(31, ONE), ("plus", ONE, full(30, ONE)),
]
for _word in WORDS:
    BAD += [
        (_word,), (_word, A), (_word, A, B, A), [_word, A, B], (_word, A, None), (_word, None, A),
        (_word, A, "b"), (_word, 1, A), (_word, A, (1, 2)), (_word, A, list(B)), (_word, Unruly(), A),
        (_word, A, Unruly()), (_word, A, ("number", 2, 2)), (_word, ("letter", "A"), A),
        ("plus", ONE, (_word, A)), ("power", (_word, A), 2),
    ]


class NeedTermTest(unittest.TestCase):
    def test_good_terms_are_told_again(self):
        for term in GOOD:
            self.assertIs(need_term(term), term)

    def test_all_else_is_refused_by_all(self):
        for place, thing in enumerate(BAD):
            with self.subTest(place=place):
                self.assertIs(refusal(need_term, thing), BadTerm)
                self.assertIs(refusal(letters, thing), BadTerm)
                self.assertIs(refusal(value, thing, {"a": (1, 1), "b": (1, 1)}), BadTerm)

    def test_very_deep_and_very_wide_things(self):
        self.assertIs(refusal(need_term, deep(100000)), BadTerm)
        wide = A
        for _ in range(50):
            wide = ("plus", wide, wide)
        self.assertIs(refusal(need_term, wide), BadTerm)

    def test_limits_count_parts_and_levels(self):
        for word in WORDS:
            self.assertIsNone(refusal(need_term, deep(12, word)))
            self.assertIs(refusal(need_term, deep(13, word)), BadTerm)
            right = A
            for _ in range(11):
                right = (word, ONE, right)
            self.assertIsNone(refusal(need_term, right))
            self.assertIs(refusal(need_term, (word, ONE, right)), BadTerm)


class LettersTest(unittest.TestCase):
    def test_rising_and_each_once(self):
        term = ("plus", ("letter", "b"), ("times", ("letter", "ab"), ("power", ("minus", B, A), 0)))
        self.assertEqual(letters(term), ["a", "ab", "b"])
        self.assertEqual(letters(("most", ("letter", "z"), ("letter", "most"))), ["most", "z"])
        self.assertEqual(letters(ONE), [])
        self.assertEqual(letters(BROKEN), [])
        self.assertEqual(letters(full(30)), ["a"])

    def test_the_list_is_the_askers_own(self):
        found = letters(A)
        found.append("z")
        self.assertEqual(letters(A), ["a"])


class ValueTest(unittest.TestCase):
    def test_each_word(self):
        for p in [(1, 2), (-3, 7), (0, 1), (5, 1), (THIRTY, 7), (-THIRTY, THIRTY + 1)]:
            for q in [(1, 2), (-2, 3), (0, 1), (-4, 1), (1, THIRTY)]:
                point = {"a": p, "b": q}
                x, y = Fraction(*p), Fraction(*q)
                exact = {
                    "plus": x + y, "minus": x - y, "times": x * y, "over": x / y if y != 0 else None,
                    "least": min(x, y), "most": max(x, y),
                }
                for word, worth in exact.items():
                    told = None if worth is None else (worth.numerator, worth.denominator)
                    self.assertEqual(value((word, A, B), point), told)
                for count in range(9):
                    worth = x ** count
                    self.assertEqual(value(("power", A, count), point), (worth.numerator, worth.denominator))

    def test_plain_examples(self):
        self.assertEqual(value(("number", -3, 4), {}), (-3, 4))
        self.assertEqual(value(A, {"a": (5, 3)}), (5, 3))
        self.assertEqual(value(("minus", ("power", A, 2), B), {"a": (-1, 2), "b": (1, 3)}), (-1, 12))
        self.assertEqual(value(("power", NOUGHT, 0), {}), (1, 1))
        self.assertEqual(value(("over", NOUGHT, A), {"a": (-2, 9)}), (0, 1))
        self.assertEqual(value(full(30), {"a": (1, 3)}), (10, 1))
        self.assertEqual(value(deep(12), {"a": (1, 2)}), (23, 2))

    def test_nought_as_a_divisor(self):
        zero = ("minus", A, A)
        broken = ("over", B, zero)
        point = {"a": (1, 3), "b": (2, 5)}
        self.assertIsNone(value(broken, point))
        self.assertIsNone(value(("over", zero, zero), point))
        for word in WORDS:
            self.assertIsNone(value((word, broken, A), point))
            self.assertIsNone(value((word, A, broken), point))
            self.assertIsNone(value((word, NOUGHT, broken), point))
        for count in range(9):
            self.assertIsNone(value(("power", broken, count), point))
        self.assertIsNone(value(("times", NOUGHT, ("power", BROKEN, 0)), {}))
        self.assertIsNone(value(raised(BROKEN, 10), {}))
        self.assertIsNone(value(("over", ONE, ("over", NOUGHT, ONE)), {}))

    def test_lacking_letters(self):
        term = ("plus", ("letter", "c"), ("times", ("letter", "b"), ("letter", "ba")))
        for point, name in [
            ({}, "b"), ({"b": (1, 1)}, "ba"), ({"b": (1, 1), "ba": (1, 1)}, "c"),
            ({"c": (1, 1)}, "b"), ({"c": (1, 1), "b": (1, 1), "a": (1, 1)}, "ba"),
            (None, "b"), ("bc", "b"), (["b", "ba", "c"], "b"), (Unruly(), "b"),
        ]:
            with self.assertRaises(NoLetter) as caught:
                value(term, point)
            self.assertEqual(caught.exception.name, name)

    def test_a_lacking_letter_goes_before_nought_and_behind_the_term(self):
        self.assertIs(refusal(value, ("plus", BROKEN, A), {}), NoLetter)
        self.assertIs(refusal(value, ("power", A, 0), {}), NoLetter)
        self.assertIs(refusal(value, ("power", A, 9), {}), BadTerm)
        self.assertIs(refusal(value, ("plus", A, B), {"a": None}), NoLetter)

    def test_other_names_in_the_point_do_not_matter(self):
        point = {"a": (1, 2), "b": None, 7: Unruly(), "zz": "?"}
        self.assertEqual(value(("times", A, A), point), (1, 4))

    def test_the_same_each_time_and_nothing_is_changed(self):
        term = ("over", ("plus", A, B), ("most", A, ("number", 1, 7)))
        point = {"b": (2, 3), "a": (-1, 2), "other": [1]}
        before_term, before_point = copy.deepcopy(term), copy.deepcopy(point)
        first = value(term, point)
        self.assertEqual(first, (7, 6))
        self.assertEqual(value(term, point), first)
        self.assertEqual(letters(term), letters(term))
        self.assertEqual(term, before_term)
        self.assertEqual(point, before_point)
        self.assertEqual(list(point), ["b", "a", "other"])


if __name__ == "__main__":
    unittest.main()
