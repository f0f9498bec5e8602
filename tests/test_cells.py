import copy
import unittest
from fractions import Fraction

from boundsums.cells import cells
from boundsums.errors import BadCount, BadGrid, BadStretch, BadTerm
from tests.test_stretches import BAD_GRIDS, BAD_STRETCHES, GRIDS
from tests.test_terms import A, B, BAD, BROKEN, NOUGHT, ONE, deep, full, raised
from tests.things import STRANGE, THIRTY, Unruly, exact_stretch, exact_value, refusal, some_terms

HALF = ("number", 1, 2)


def at(top, bottom=1):
    """A term that comes to nought where the letter is this number alone."""
    return ("minus", A, ("number", top, bottom))


def told_word_by_word(grid, term, stretch):
    """The cells as [11] tells them: each box that led to a place is asked."""
    found = []
    waiting = [stretch] if stretch[0] < stretch[1] else []
    for low, high in waiting:
        worth = exact_stretch(grid, term, {"a": (low, high)})
        if worth is None or worth[0] <= 0 <= worth[1]:
            middle = (Fraction(low + high) / 2).__floor__()
            if high - low > 1:
                waiting += [(low, middle), (middle, high)]
            else:
                found.append(low)
    return sorted(found)


class CellsTest(unittest.TestCase):
    def test_plain_examples(self):
        self.assertEqual(cells(10, A, (-5, 5)), [-1, 0])
        self.assertEqual(cells(10, A, (1, 5)), [])
        self.assertEqual(cells(10, A, (0, 5)), [0])
        self.assertEqual(cells(10, A, (-5, 0)), [-1])
        self.assertEqual(cells(10, at(1, 4), (0, 10)), [1, 2, 3])
        self.assertEqual(cells(10, at(1, 2), (0, 10)), [4, 5])
        self.assertEqual(cells(10, ("minus", ("times", A, A), ("number", 2, 1)), (0, 20)), [13, 14])
        self.assertEqual(cells(10, ("minus", ("times", A, A), ("number", 2, 1)), (-20, 20)), [-15, -14, 13, 14])
        self.assertEqual(cells(10, ("times", at(1, 4), at(-3, 4)), (-10, 10)), [-9, -8, -7, -6, 0, 1, 2, 3])
        self.assertEqual(cells(1, ("letter", "abcdefgh"), (-3, 3)), [-1, 0])

    def test_where_it_has_no_stretch(self):
        self.assertEqual(cells(10, ("over", ONE, A), (-5, 5)), [-1, 0])
        self.assertEqual(cells(10, ("over", ONE, at(1, 4)), (0, 10)), [1, 2, 3])
        self.assertEqual(cells(10, ("over", at(1, 2), at(-1, 4)), (-10, 10)), [-4, -3, -2, 4, 5])
        self.assertEqual(cells(10, ("power", ("over", ONE, A), 0), (-5, 5)), [-1, 0])
        self.assertEqual(cells(10, ("plus", ("over", ONE, ("minus", A, A)), ONE), (0, 3)), [0, 1, 2])

    def test_terms_without_letters(self):
        for stretch in [(0, 7), (-3, 2), (THIRTY, THIRTY + 1000)]:
            places = list(range(stretch[0], stretch[1]))
            for term in [NOUGHT, BROKEN, ("minus", HALF, HALF), ("number", 1, 1000), ("number", -1, 1000)]:
                self.assertEqual(cells(10, term, stretch), places)
            for term in [ONE, HALF, ("number", -1, 2), ("power", NOUGHT, 0)]:
                self.assertEqual(cells(10, term, stretch), [])

    def test_a_stretch_that_is_a_point(self):
        for term in [A, at(1, 2), NOUGHT, BROKEN, ONE, ("over", ONE, A)]:
            for place in [0, 5, -5, THIRTY]:
                self.assertEqual(cells(10, term, (place, place)), [])

    def test_how_wide(self):
        self.assertEqual(cells(1, A, (0, 1000)), [0])
        self.assertEqual(cells(1, A, (-1000, 0)), [-1])
        self.assertEqual(cells(1, ("minus", A, A), (0, 1000)), list(range(1000)))
        self.assertEqual(cells(1, ("minus", A, A), (THIRTY, THIRTY + 1000)), list(range(THIRTY, THIRTY + 1000)))
        for stretch in [(0, 1001), (-1, 1000), (-THIRTY, THIRTY), (THIRTY, THIRTY + 1001)]:
            for term in [A, ONE, NOUGHT, BROKEN]:
                self.assertIs(refusal(cells, 1, term, stretch), BadStretch)

    def test_grids(self):
        for grid in GRIDS:
            for place in [0, 3, 1000, -7]:
                term = at(Fraction(place, grid).numerator, Fraction(place, grid).denominator)
                self.assertEqual(cells(grid, term, (place - 500, place + 500)), [place - 1, place])
                self.assertEqual(cells(grid, term, (place, place + 1)), [place])
                self.assertEqual(cells(grid, term, (place + 1, place + 9)), [])

    def test_limits_of_terms(self):
        self.assertEqual(cells(1, raised(A, 11), (-9, 9)), [-1, 0])
        self.assertEqual(cells(1, deep(12), (-20, 9)), [-12, -11])
        self.assertEqual(cells(1, full(30), (-9, 9)), [-1, 0])
        self.assertEqual(cells(10, ("power", A, 8), (-30, 30)), list(range(-8, 8)))
        self.assertEqual(cells(10, ("power", A, 0), (-30, 30)), [])

    def test_many_terms(self):
        for grid in [1, 3, 10]:
            for term in some_terms(["a"], 150, 5, grid + 7):
                for stretch in [(-3 * grid, 3 * grid), (0, 2 * grid + 1), (-7, -2), (4, 5)]:
                    self.assertEqual(cells(grid, term, stretch), told_word_by_word(grid, term, stretch))

    def test_wherever_it_comes_to_nought_or_to_none_is_in_a_cell_or_at_its_end(self):
        met = 0
        for grid in [1, 6]:
            for term in some_terms(["a"], 150, 4, grid + 31):
                found = cells(grid, term, (-2 * grid, 2 * grid))
                for k in range(-2 * grid, 2 * grid):
                    for over in [Fraction(0), Fraction(1, 3), Fraction(1, 2), Fraction(1)]:
                        worth = exact_value(term, {"a": (k + over) / grid})
                        if worth is None or worth == 0:
                            met += 1
                            self.assertTrue(any(one <= k + over <= one + 1 for one in found))
        self.assertGreater(met, 500)


class RefusalTest(unittest.TestCase):
    def test_each(self):
        for grid in BAD_GRIDS:
            self.assertIs(refusal(cells, grid, A, (0, 5)), BadGrid)
        for thing in BAD:
            self.assertIs(refusal(cells, 10, thing, (0, 5)), BadTerm)
        for thing in BAD_STRETCHES:
            for term in [A, ONE, NOUGHT, BROKEN]:
                self.assertIs(refusal(cells, 10, term, thing), BadStretch)
        for term in [("plus", A, B), ("over", B, ("minus", A, A)), ("times", A, ("power", ("plus", B, BROKEN), 0)),
                     ("plus", ("plus", A, B), ("letter", "c")), ("least", ("letter", "a"), ("letter", "aa"))]:
            self.assertIs(refusal(cells, 10, term, (0, 5)), BadCount)

    def test_what_is_told_first(self):
        for thing in STRANGE:
            self.assertIs(refusal(cells, thing, thing, thing), BadGrid)
            self.assertIs(refusal(cells, 0, ("plus", A, B), thing), BadGrid)
            self.assertIs(refusal(cells, 10, thing, thing), BadTerm)
            self.assertIs(refusal(cells, 10, ("plus", B, ("power", A, 9)), thing), BadTerm)
            self.assertIs(refusal(cells, 10, ("plus", A, B), thing), BadCount)
        self.assertIs(refusal(cells, 10, ("plus", A, B), (0, 1001)), BadCount)
        self.assertIs(refusal(cells, 10, BROKEN, Unruly()), BadStretch)


class OwnTest(unittest.TestCase):
    def test_the_list_is_the_askers_own_and_nothing_is_changed(self):
        for term in [A, NOUGHT, ONE, at(1, 2), ("over", ONE, A)]:
            before = copy.deepcopy(term)
            first = cells(10, term, (-9, 9))
            kept = list(first)
            first.append(99)
            self.assertEqual(cells(10, term, (-9, 9)), kept)
            self.assertIs(type(first), list)
            self.assertEqual(term, before)
        empty = cells(10, ONE, (5, 5))
        empty.append(1)
        self.assertEqual(cells(10, ONE, (5, 5)), [])


if __name__ == "__main__":
    unittest.main()
