import unittest
from fractions import Fraction

from boundsums.errors import BadFraction, ByNought
from boundsums.fractions import (
    added, ceiling_of, compared, divided, floor_of, fraction, is_fraction, multiplied, taken,
)
from tests.things import NO_PAIRS, STRANGE, THIRTY, Unruly, refusal

WHOLES = [0, 1, -1, 2, -3, 7, 9, 1000, -4096, 9999, THIRTY, -THIRTY, THIRTY + 1, 10 ** 29]
BOTTOMS = [whole for whole in WHOLES if whole != 0]


def told(exact):
    """The library's own fraction, as the program tells it."""
    return (exact.numerator, exact.denominator)


def samples():
    return [fraction(top, bottom) for top in WHOLES for bottom in BOTTOMS]


class FractionTest(unittest.TestCase):
    def test_lowest_terms_with_a_bottom_above_nought(self):
        for top in WHOLES:
            for bottom in BOTTOMS:
                self.assertEqual(fraction(top, bottom), told(Fraction(top, bottom)))

    def test_plain_examples(self):
        self.assertEqual(fraction(6, 4), (3, 2))
        self.assertEqual(fraction(6, -4), (-3, 2))
        self.assertEqual(fraction(-6, -4), (3, 2))
        self.assertEqual(fraction(0, -7), (0, 1))
        self.assertEqual(fraction(-1234, 5678), (-617, 2839))

    def test_both_times_a_like_number_is_the_same(self):
        for times in [2, -3, 1000, THIRTY, -THIRTY]:
            for top in WHOLES:
                for bottom in BOTTOMS:
                    self.assertEqual(fraction(top * times, bottom * times), fraction(top, bottom))

    def test_numbers_of_four_hundred_figures(self):
        long = 10 ** 399 + 7
        self.assertEqual(fraction(long * 2, -4), (-long, 2))
        self.assertEqual(fraction(long, long), (1, 1))

    def test_bad_tops_and_bottoms(self):
        for thing in STRANGE + [(1, 2), [1], "ab"]:
            self.assertIs(refusal(fraction, thing, 1), BadFraction)
            self.assertIs(refusal(fraction, 1, thing), BadFraction)
            self.assertIs(refusal(fraction, thing, thing), BadFraction)
            self.assertIs(refusal(fraction, thing, 0), BadFraction)

    def test_bottom_nought(self):
        for top in WHOLES:
            self.assertIs(refusal(fraction, top, 0), BadFraction)


class IsFractionTest(unittest.TestCase):
    def test_fractions_are(self):
        for one in samples() + [(0, 1), (1, 1), (-5, 3), (THIRTY, 1)]:
            self.assertIs(is_fraction(one), True)

    def test_others_are_not(self):
        others = [(2, 4), (1, -2), (-1, -2), (0, 2), (0, -1), (1, 0), (0, 0), (-3, 3), (THIRTY, 10)]
        for thing in NO_PAIRS + others:
            self.assertIs(is_fraction(thing), False)


class DeedsTest(unittest.TestCase):
    def test_sums_differences_products_quotients_and_order(self):
        for p in samples():
            for q in samples():
                first, second = Fraction(*p), Fraction(*q)
                self.assertEqual(added(p, q), told(first + second))
                self.assertEqual(taken(p, q), told(first - second))
                self.assertEqual(multiplied(p, q), told(first * second))
                if second != 0:
                    self.assertEqual(divided(p, q), told(first / second))
                self.assertEqual(compared(p, q), (first > second) - (first < second))

    def test_plain_examples(self):
        self.assertEqual(added((1, 2), (1, 3)), (5, 6))
        self.assertEqual(taken((1, 2), (1, 3)), (1, 6))
        self.assertEqual(taken((1, 3), (1, 2)), (-1, 6))
        self.assertEqual(multiplied((2, 3), (3, 2)), (1, 1))
        self.assertEqual(divided((1, 2), (-3, 4)), (-2, 3))

    def test_what_is_told_is_a_fraction(self):
        for deed in [added, taken, multiplied, divided]:
            for p in samples():
                self.assertTrue(is_fraction(deed(p, (-7, 9))))

    def test_compared_tells_whole_numbers(self):
        for one in samples():
            self.assertEqual(compared(one, one), 0)
        self.assertEqual(compared((1, 3), (1, 2)), -1)
        self.assertEqual(compared((-1, 3), (-1, 2)), 1)
        self.assertEqual(compared((THIRTY, THIRTY + 1), (THIRTY - 1, THIRTY)), 1)
        self.assertIs(type(compared((1, 3), (1, 2))), int)

    def test_by_nought(self):
        for one in samples():
            self.assertIs(refusal(divided, one, (0, 1)), ByNought)

    def test_floor_and_ceiling(self):
        for one in samples():
            exact = Fraction(*one)
            self.assertEqual(floor_of(one), exact.__floor__())
            self.assertEqual(ceiling_of(one), exact.__ceil__())
        self.assertEqual((floor_of((7, 2)), ceiling_of((7, 2))), (3, 4))
        self.assertEqual((floor_of((-7, 2)), ceiling_of((-7, 2))), (-4, -3))
        self.assertEqual((floor_of((1, 9)), ceiling_of((1, 9))), (0, 1))
        self.assertEqual((floor_of((-1, 9)), ceiling_of((-1, 9))), (-1, 0))
        self.assertEqual((floor_of((-6, 1)), ceiling_of((-6, 1))), (-6, -6))
        self.assertEqual((floor_of((0, 1)), ceiling_of((0, 1))), (0, 0))

    def test_things_that_are_no_pairs(self):
        for thing in NO_PAIRS + [(1, 0), (0, 0)]:
            for deed in [added, taken, multiplied, divided, compared]:
                self.assertIs(refusal(deed, thing, (1, 2)), BadFraction)
                self.assertIs(refusal(deed, (1, 2), thing), BadFraction)
            self.assertIs(refusal(floor_of, thing), BadFraction)
            self.assertIs(refusal(ceiling_of, thing), BadFraction)

    def test_no_pair_goes_before_nought(self):
        self.assertIs(refusal(divided, Unruly(), (0, 1)), BadFraction)

    def test_pairs_not_in_lowest_terms_are_taken_for_their_fraction(self):
        self.assertEqual(added((2, 4), (1, -2)), (0, 1))
        self.assertEqual(compared((1, -2), (1, 2)), -1)
        self.assertEqual(floor_of((7, -2)), -4)
        self.assertEqual(ceiling_of((7, -2)), -3)


if __name__ == "__main__":
    unittest.main()
