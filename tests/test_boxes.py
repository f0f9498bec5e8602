import copy
import unittest
from fractions import Fraction
from itertools import product

from boundsums.boxes import parted, stretch_of
from boundsums.errors import BadGrid, BadStretch, BadTerm, ByNought, NoLetter
from boundsums.stretches import holding, least, lies_in, minus, most, over, plus, power, times
from boundsums.terms import letters, value
from tests.test_stretches import BAD_GRIDS, BAD_STRETCHES, GRIDS
from tests.test_terms import A, B, BAD, BROKEN, NOUGHT, ONE, deep, full, raised
from tests.things import STRANGE, THIRTY, WORDS, Unruly, exact_stretch, refusal, some_boxes, some_terms

DEEDS = {"plus": plus, "minus": minus, "times": times, "over": over, "least": least, "most": most}
PLACES = [(0, 0), (0, 1), (-1, 1), (3, 8), (-8, -3), (-5, 20), (THIRTY, THIRTY + 9), (-THIRTY, THIRTY)]


def told(grid, term, box):
    """The stretch of a term in a box, None where it has none."""
    try:
        return stretch_of(grid, term, box)
    except ByNought:
        return None


def fractions_in(grid, stretch):
    """Its ends, and some between that lie on the grid or not."""
    low, high = stretch
    exact = [Fraction(low, grid) + Fraction(high - low, grid) * Fraction(part, 5) for part in [0, 1, 3, 5]]
    exact.append(Fraction((low + high) // 2, grid))
    return [(one.numerator, one.denominator) for one in exact]


class StretchOfTest(unittest.TestCase):
    def test_letters_and_numbers(self):
        for grid in GRIDS:
            for stretch in PLACES:
                self.assertEqual(stretch_of(grid, A, {"a": stretch}), stretch)
            for top, bottom in [(0, 1), (1, 3), (-1, 3), (-7, 1), (10 ** 12 - 1, 1), (1, 10 ** 12 - 1)]:
                self.assertEqual(stretch_of(grid, ("number", top, bottom), {}), holding(grid, (top, bottom)))
        self.assertEqual(stretch_of(10, ("letter", "abcdefgh"), {"abcdefgh": (2, 5)}), (2, 5))

    def test_each_word_is_told_of_the_stretches_of_the_parts(self):
        for grid in [1, 10, 10 ** 9]:
            for one, other in product(PLACES, PLACES):
                box = {"a": one, "b": other}
                for word in WORDS:
                    term = (word, A, B)
                    if word == "over" and other[0] <= 0 <= other[1]:
                        self.assertIs(refusal(stretch_of, grid, term, box), ByNought)
                    else:
                        self.assertEqual(stretch_of(grid, term, box), DEEDS[word](grid, one, other))
                for count in range(9):
                    self.assertEqual(stretch_of(grid, ("power", A, count), box), power(grid, one, count))

    def test_plain_examples(self):
        self.assertEqual(stretch_of(10, ("minus", A, A), {"a": (1, 3)}), (-2, 2))
        self.assertEqual(stretch_of(10, ("times", A, ("number", 1, 3)), {"a": (10, 20)}), (3, 8))
        self.assertEqual(stretch_of(10, ("over", ("plus", A, ONE), B), {"a": (0, 5), "b": (20, 30)}), (3, 8))
        self.assertEqual(stretch_of(1, ("over", ("over", A, B), B), {"a": (1, 1), "b": (2, 2)}), (0, 1))
        self.assertEqual(stretch_of(10, ("power", ("minus", A, B), 2), {"a": (0, 10), "b": (0, 20)}), (0, 40))

    def test_limits(self):
        self.assertEqual(stretch_of(10, full(30), {"a": (1, 2)}), (30, 60))
        self.assertEqual(stretch_of(10, deep(12), {"a": (1, 2)}), (111, 112))
        self.assertEqual(stretch_of(1, raised(A, 11), {"a": (-THIRTY, 7)}), (-THIRTY, 7))
        long = 10 ** 399
        self.assertEqual(stretch_of(1, ("power", A, 8), {"a": (-long, long)}), (0, long ** 8))

    def test_many_terms(self):
        for grid in [1, 7, 1000]:
            for term in some_terms(["a", "b"], 300, 5, grid):
                for box in some_boxes(["a", "b"], 3, 3 * grid, grid):
                    self.assertEqual(told(grid, term, box), exact_stretch(grid, term, box))

    def test_what_a_term_comes_to_lies_in_its_stretch(self):
        for grid in [1, 10]:
            for term in some_terms(["a", "b"], 150, 5, grid + 50):
                for box in some_boxes(["a", "b"], 2, 2 * grid, grid + 50):
                    stretch = told(grid, term, box)
                    for one, other in product(fractions_in(grid, box["a"]), fractions_in(grid, box["b"])):
                        worth = value(term, {"a": one, "b": other})
                        if stretch is not None:
                            self.assertTrue(lies_in(grid, stretch, worth))

    def test_in_a_narrower_box_it_lies_within(self):
        for grid in [1, 10]:
            for term in some_terms(["a", "b"], 150, 5, grid + 90):
                for box in some_boxes(["a", "b"], 2, 4 * grid, grid + 90):
                    stretch = told(grid, term, box)
                    for part in narrower(box):
                        if stretch is not None:
                            low, high = stretch_of(grid, term, part)
                            self.assertLessEqual(stretch[0], low)
                            self.assertLessEqual(high, stretch[1])

    def test_by_nought_anywhere(self):
        box = {"a": (1, 2), "b": (-1, 1)}
        broken = ("over", A, B)
        for term in [BROKEN, broken, ("times", NOUGHT, broken), ("plus", broken, A), ("least", A, broken),
                     ("over", ONE, ("over", NOUGHT, A)), ("over", A, ("minus", A, A)), ("over", NOUGHT, NOUGHT)]:
            self.assertIs(refusal(stretch_of, 10, term, box), ByNought)
            for count in range(9):
                self.assertIs(refusal(stretch_of, 10, ("power", term, count), box), ByNought)
        self.assertEqual(stretch_of(10, broken, {"a": (1, 2), "b": (1, 1)}), (10, 20))

    def test_a_divisor_that_is_told_outward_to_nought(self):
        # 1/1000 isn't nought, but on grid 10 nought lies in its stretch.
        self.assertIs(refusal(stretch_of, 10, ("over", ONE, ("number", 1, 1000)), {}), ByNought)
        self.assertEqual(stretch_of(1000, ("over", ONE, ("number", 1, 1000)), {}), (10 ** 6, 10 ** 6))


def narrower(box):
    """Boxes that lie within a box."""
    (low, high), (other_low, other_high) = box["a"], box["b"]
    middle, other_middle = (low + high) // 2, (other_low + other_high) // 2
    return [
        box, {**box, "a": (low, middle)}, {**box, "b": (other_middle, other_high)}, {**box, "a": (middle, middle)},
        {"a": (middle, high), "b": (other_low, other_middle)}, {"a": (low, low), "b": (other_high, other_high)},
    ]


class RefusalTest(unittest.TestCase):
    def test_each(self):
        for grid in BAD_GRIDS:
            self.assertIs(refusal(stretch_of, grid, A, {"a": (1, 2)}), BadGrid)
        for thing in BAD:
            self.assertIs(refusal(stretch_of, 10, thing, {"a": (1, 2), "b": (1, 2)}), BadTerm)
        for thing in BAD_STRETCHES:
            self.assertIs(refusal(stretch_of, 10, A, {"a": thing}), BadStretch)
            self.assertIs(refusal(stretch_of, 10, ("plus", A, B), {"a": (1, 2), "b": thing}), BadStretch)
            self.assertIs(refusal(stretch_of, 10, ("power", A, 0), {"a": thing}), BadStretch)
        for thing in STRANGE + [1, "a", ["a"], ("a",), [("a", (1, 2))]]:
            self.assertIs(refusal(stretch_of, 10, A, thing), NoLetter)

    def test_the_first_letter_by_names_that_lacks(self):
        term = ("plus", ("letter", "c"), ("times", ("letter", "b"), ("letter", "ba")))
        good = (1, 2)
        for box, name in [
            ({}, "b"), ({"b": good}, "ba"), ({"b": good, "ba": good}, "c"), ({"c": good}, "b"),
            ({"c": None, "b": None}, "ba"), ({"c": good, "ba": (2, 1), "a": good}, "b"), (None, "b"), (Unruly(), "b"),
        ]:
            with self.assertRaises(NoLetter) as caught:
                stretch_of(10, term, box)
            self.assertEqual(caught.exception.name, name)

    def test_what_is_told_first(self):
        self.assertIs(refusal(stretch_of, 0, None, None), BadGrid)
        self.assertIs(refusal(stretch_of, Unruly(), Unruly(), Unruly()), BadGrid)
        self.assertIs(refusal(stretch_of, 10, ("plus", A, None), None), BadTerm)
        self.assertIs(refusal(stretch_of, 10, Unruly(), Unruly()), BadTerm)
        self.assertIs(refusal(stretch_of, 10, ("plus", A, B), {"a": None}), NoLetter)
        self.assertIs(refusal(stretch_of, 10, ("plus", A, B), {"b": Unruly()}), NoLetter)
        self.assertIs(refusal(stretch_of, 10, ("plus", BROKEN, A), {}), NoLetter)
        self.assertIs(refusal(stretch_of, 10, ("plus", BROKEN, A), {"a": (2, 1)}), BadStretch)
        self.assertIs(refusal(stretch_of, 10, ("over", A, B), {"a": [1, 2], "b": (0, 0)}), BadStretch)
        self.assertIs(refusal(stretch_of, 10, ("over", A, B), {"a": (1, 2), "b": (0, 0)}), ByNought)

    def test_other_names_in_the_box_do_not_matter(self):
        for thing in BAD_STRETCHES:
            self.assertEqual(stretch_of(10, ("plus", A, A), {"zz": thing, "a": (1, 2), 7: thing}), (2, 4))
        self.assertEqual(stretch_of(10, ONE, {"a": None}), (10, 10))


class PartedTest(unittest.TestCase):
    def test_plain_examples(self):
        self.assertEqual(parted({"a": (0, 10)}, "a", 4), ({"a": (0, 4)}, {"a": (4, 10)}))
        self.assertEqual(parted({"a": (-3, -1), "b": (1, 2)}, "a", -2),
                         ({"a": (-3, -2), "b": (1, 2)}, {"a": (-2, -1), "b": (1, 2)}))
        self.assertEqual(parted({"a": (-THIRTY, THIRTY)}, "a", 0), ({"a": (-THIRTY, 0)}, {"a": (0, THIRTY)}))
        self.assertEqual(parted({"a": (1, 5), "b": (2, 9)}, "b", 3),
                         ({"a": (1, 5), "b": (2, 3)}, {"a": (1, 5), "b": (3, 9)}))

    def test_all_names_of_the_box_are_there(self):
        thing = Unruly()
        box = {"zz": thing, "b": (0, 2), "a": (5, 5)}
        pair = parted(box, "b", 1)
        self.assertIs(type(pair), tuple)
        for part in pair:
            self.assertIs(type(part), dict)
            self.assertEqual(list(part), ["zz", "b", "a"])
            self.assertIs(part["zz"], thing)
            self.assertEqual(part["a"], (5, 5))


class OwnTest(unittest.TestCase):
    def test_nothing_is_changed_and_the_same_is_told_each_time(self):
        for term in some_terms(["a", "b"], 50, 5, 5):
            before = copy.deepcopy(term)
            box = {"b": (3, 9), "a": (-2, 7), "other": [1]}
            self.assertEqual(told(10, term, box), told(10, term, box))
            self.assertEqual(term, before)
            self.assertEqual(list(box.items()), [("b", (3, 9)), ("a", (-2, 7)), ("other", [1])])
            self.assertEqual(letters(term), letters(before))

    def test_parts_are_the_askers_own(self):
        box = {"a": (0, 10), "b": (1, 2)}
        first = parted(box, "a", 5)
        first[0]["b"] = None
        first[1].clear()
        self.assertEqual(box, {"a": (0, 10), "b": (1, 2)})
        self.assertEqual(parted(box, "a", 5), ({"a": (0, 5), "b": (1, 2)}, {"a": (5, 10), "b": (1, 2)}))
        self.assertIsNot(parted({"a": (0, 2)}, "a", 1)[0], parted({"a": (0, 2)}, "a", 1)[1])

    def test_a_box_is_not_kept(self):
        box = {"a": (1, 2)}
        self.assertEqual(stretch_of(10, A, box), (1, 2))
        box["a"] = (3, 4)
        self.assertEqual(stretch_of(10, A, box), (3, 4))


if __name__ == "__main__":
    unittest.main()
