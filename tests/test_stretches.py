import unittest
from fractions import Fraction

from boundsums.errors import BadCount, BadFraction, BadGrid, BadStretch, ByNought
from boundsums.stretches import (
    contrary, holding, least, lies_in, minus, most, need_grid, need_stretch, over, plus, power, times,
)
from tests.things import NO_PAIRS, STRANGE, THIRTY, Unruly, ends, held, refusal

GRIDS = [1, 2, 3, 7, 10, 1000, 10 ** 9]
STRETCHES = [
    (0, 0), (1, 1), (-1, -1), (5, 5), (0, 1), (-1, 0), (-1, 1), (2, 3), (-3, -2), (-5, 2), (-2, 7),
    (3, 40), (-1000, 999), (0, 12345), (-12345, 0), (THIRTY, THIRTY + 5), (-THIRTY, THIRTY), (-THIRTY, -1),
]
DEEDS = {
    plus: lambda x, y: x + y, minus: lambda x, y: x - y, times: lambda x, y: x * y,
    over: lambda x, y: x / y, least: min, most: max,
}
BAD_GRIDS = STRANGE + [0, -1, 10 ** 9 + 1, THIRTY, "10", (1,), [1], 10.0]
BAD_STRETCHES = NO_PAIRS + [(1, 0), (0, -1), (THIRTY, THIRTY - 1)]
BAD_COUNTS = STRANGE + [-1, 9, THIRTY, -THIRTY, 2.0, (2,)]


def within(grid, stretch):
    """Values of a stretch: its ends, nought where it lies there, and some between."""
    low, high = ends(grid, stretch)
    between = [low + (high - low) * Fraction(k, 7) for k in range(8)]
    return between + [Fraction(0)] * (low <= 0 <= high)


class NeedTest(unittest.TestCase):
    def test_grids(self):
        for grid in GRIDS:
            self.assertIsNone(need_grid(grid))
        for grid in BAD_GRIDS:
            self.assertIs(refusal(need_grid, grid), BadGrid)

    def test_stretches(self):
        for stretch in STRETCHES:
            self.assertIs(need_stretch(stretch), stretch)
        for thing in BAD_STRETCHES:
            self.assertIs(refusal(need_stretch, thing), BadStretch)


class HoldingTest(unittest.TestCase):
    def test_on_the_grid_and_between(self):
        self.assertEqual(holding(10, (3, 10)), (3, 3))
        self.assertEqual(holding(10, (1, 3)), (3, 4))
        self.assertEqual(holding(10, (-1, 3)), (-4, -3))
        self.assertEqual(holding(10, (0, 1)), (0, 0))
        self.assertEqual(holding(10, (1, 1000)), (0, 1))
        self.assertEqual(holding(10, (-1, 1000)), (-1, 0))
        self.assertEqual(holding(1, (-5, 1)), (-5, -5))
        self.assertEqual(holding(4, (-3, 2)), (-6, -6))

    def test_all_grids(self):
        for grid in GRIDS:
            for top in [0, 1, -1, 22, -355, THIRTY, -THIRTY]:
                for bottom in [1, 2, 7, 113, 10 ** 9, THIRTY + 1]:
                    exact = Fraction(top, bottom)
                    p = (exact.numerator, exact.denominator)
                    found = holding(grid, p)
                    self.assertEqual(found, held(grid, [exact]))
                    self.assertIs(lies_in(grid, found, p), True)

    def test_lies_in_at_the_ends_and_beyond(self):
        self.assertIs(lies_in(10, (3, 5), (3, 10)), True)
        self.assertIs(lies_in(10, (3, 5), (1, 2)), True)
        self.assertIs(lies_in(10, (3, 5), (1, 3)), True)
        self.assertIs(lies_in(10, (3, 5), (299, 1000)), False)
        self.assertIs(lies_in(10, (3, 5), (501, 1000)), False)
        self.assertIs(lies_in(10, (-5, -3), (-501, 1000)), False)
        self.assertIs(lies_in(10, (-5, -3), (-1, 2)), True)
        self.assertIs(lies_in(1, (THIRTY, THIRTY), (THIRTY, 1)), True)
        self.assertIs(lies_in(1, (THIRTY, THIRTY), (THIRTY * 7 + 1, 7)), False)
        self.assertIs(lies_in(3, (0, 0), (0, 1)), True)

    def test_refusals(self):
        for grid in BAD_GRIDS:
            self.assertIs(refusal(holding, grid, (1, 2)), BadGrid)
            self.assertIs(refusal(lies_in, grid, (1, 2), (1, 2)), BadGrid)
            self.assertIs(refusal(lies_in, grid, Unruly(), (1, 2)), BadGrid)
        for thing in BAD_STRETCHES:
            self.assertIs(refusal(lies_in, 10, thing, (1, 2)), BadStretch)
        self.assertIs(refusal(lies_in, 10, None, None), BadStretch)
        self.assertIs(refusal(holding, 10, None), BadFraction)
        self.assertIs(refusal(lies_in, 10, (1, 2), None), BadFraction)


class TwoTest(unittest.TestCase):
    def test_least_stretch_of_all_values(self):
        for grid in GRIDS:
            for one in STRETCHES:
                for other in STRETCHES:
                    for deed, exact in DEEDS.items():
                        if deed is over and other[0] <= 0 <= other[1]:
                            continue
                        corners = [exact(x, y) for x in ends(grid, one) for y in ends(grid, other)]
                        self.assertEqual(deed(grid, one, other), held(grid, corners))

    def test_no_value_is_lost(self):
        few = STRETCHES[:13]
        for grid in [1, 7, 1000]:
            for one in few:
                for other in few:
                    for deed, exact in DEEDS.items():
                        if deed is over and other[0] <= 0 <= other[1]:
                            continue
                        low, high = deed(grid, one, other)
                        worths = [exact(x, y) for x in within(grid, one) for y in within(grid, other)]
                        self.assertLessEqual(low, min(worths) * grid)
                        self.assertGreaterEqual(high, max(worths) * grid)

    def test_plain_examples(self):
        self.assertEqual(plus(10, (1, 2), (-5, 7)), (-4, 9))
        self.assertEqual(minus(10, (1, 2), (-5, 7)), (-6, 7))
        self.assertEqual(times(10, (1, 2), (-5, 7)), (-1, 2))
        self.assertEqual(times(10, (10, 20), (-5, 7)), (-10, 14))
        self.assertEqual(over(10, (1, 2), (3, 4)), (2, 7))
        self.assertEqual(over(10, (-1, 2), (-4, -3)), (-7, 4))
        self.assertEqual(least(10, (1, 9), (3, 4)), (1, 4))
        self.assertEqual(most(10, (1, 9), (3, 4)), (3, 9))
        self.assertEqual(times(10 ** 9, (1, 1), (1, 1)), (0, 1))

    def test_one_with_itself_is_each_value_with_each(self):
        self.assertEqual(minus(10, (1, 3), (1, 3)), (-2, 2))
        self.assertEqual(times(1, (-2, 3), (-2, 3)), (-6, 9))
        self.assertEqual(over(1, (1, 3), (1, 3)), (0, 3))

    def test_over_where_nought_lies_in_the_second(self):
        for other in [(0, 0), (-1, 1), (0, 5), (-5, 0), (-THIRTY, THIRTY)]:
            self.assertIs(refusal(over, 10, (1, 2), other), ByNought)
            self.assertIs(refusal(over, 10, (0, 0), other), ByNought)
        self.assertEqual(over(10, (1, 1), (1, 5)), (2, 10))
        self.assertEqual(over(10, (1, 1), (-5, -1)), (-10, -2))

    def test_refusals_and_their_order(self):
        for deed in DEEDS:
            for grid in BAD_GRIDS:
                self.assertIs(refusal(deed, grid, (1, 2), (1, 2)), BadGrid)
                self.assertIs(refusal(deed, grid, None, Unruly()), BadGrid)
                self.assertIs(refusal(deed, grid, (1, 2), (0, 0)), BadGrid)
            for thing in BAD_STRETCHES:
                self.assertIs(refusal(deed, 10, thing, (1, 2)), BadStretch)
                self.assertIs(refusal(deed, 10, (1, 2), thing), BadStretch)
                self.assertIs(refusal(deed, 10, thing, (0, 0)), BadStretch)


class ContraryTest(unittest.TestCase):
    def test_all_stretches(self):
        for grid in GRIDS:
            for low, high in STRETCHES:
                self.assertEqual(contrary(grid, (low, high)), (-high, -low))

    def test_refusals_and_their_order(self):
        for grid in BAD_GRIDS:
            self.assertIs(refusal(contrary, grid, (1, 2)), BadGrid)
            self.assertIs(refusal(contrary, grid, Unruly()), BadGrid)
        for thing in BAD_STRETCHES:
            self.assertIs(refusal(contrary, 10, thing), BadStretch)


class PowerTest(unittest.TestCase):
    def test_least_stretch_of_all_values(self):
        for grid in GRIDS:
            for one in STRETCHES:
                turns = ends(grid, one) + [Fraction(0)] * (one[0] <= 0 <= one[1])
                for count in range(9):
                    exact = [worth ** count for worth in turns]
                    self.assertEqual(power(grid, one, count), held(grid, exact))

    def test_no_value_is_lost(self):
        for grid in [1, 7, 1000]:
            for one in STRETCHES:
                for count in range(9):
                    low, high = power(grid, one, count)
                    worths = [worth ** count for worth in within(grid, one)]
                    self.assertLessEqual(low, min(worths) * grid)
                    self.assertGreaterEqual(high, max(worths) * grid)

    def test_plain_examples(self):
        self.assertEqual(power(10, (-20, 30), 0), (10, 10))
        self.assertEqual(power(10, (0, 0), 0), (10, 10))
        self.assertEqual(power(10, (-20, 30), 1), (-20, 30))
        self.assertEqual(power(10, (-20, 30), 2), (0, 90))
        self.assertEqual(power(10, (-20, 30), 3), (-80, 270))
        self.assertEqual(power(10, (-40, 30), 2), (0, 160))
        self.assertEqual(power(10, (-40, -30), 2), (90, 160))
        self.assertEqual(power(10, (-1, 1), 8), (0, 1))
        self.assertEqual(power(10, (-1, 1), 7), (-1, 1))
        self.assertEqual(power(10, (11, 12), 2), (12, 15))

    def test_refusals_and_their_order(self):
        for grid in BAD_GRIDS:
            self.assertIs(refusal(power, grid, (1, 2), 2), BadGrid)
            self.assertIs(refusal(power, grid, None, None), BadGrid)
        for thing in BAD_STRETCHES:
            self.assertIs(refusal(power, 10, thing, 2), BadStretch)
            self.assertIs(refusal(power, 10, thing, Unruly()), BadStretch)
        for count in BAD_COUNTS:
            self.assertIs(refusal(power, 10, (1, 2), count), BadCount)


if __name__ == "__main__":
    unittest.main()
