import copy
import unittest
from fractions import Fraction

from boundsums.errors import BadCount, BadGrid, BadStretch, BadTerm, NoLetter
from boundsums.showings import is_showing, sought
from boundsums.terms import letters, value
from tests.test_stretches import BAD_GRIDS, BAD_STRETCHES
from tests.test_terms import A, B, BAD, BROKEN, NOUGHT, ONE, deep, full, raised
from tests.things import (
    NO_PAIRS, STRANGE, THIRTY, Unruly, exact_stretch, exact_value, refusal, some_boxes, some_terms,
)

PLAIN = ("plain",)
OPEN = ("open", None)
TENTH = ("number", 1, 10)
THIRD = ("number", 1, 3)
BAD_COUNTS = STRANGE + [0, -1, 501, THIRTY, -THIRTY, 200.0, "200", (200,), [200]]

# a * (a - 1) + 1 is above nought, but on the whole of 0 to 1 its stretch doesn't show it.
HUMP = ("plus", ("times", A, ("minus", A, ONE)), ONE)


def stair(k):
    """A term that is k tenths all over, and shown so in boxes that are less than k wide."""
    return ("plus", ("minus", A, A), ("number", Fraction(k, 10).numerator, Fraction(k, 10).denominator))


def part(name, at, low=PLAIN, high=PLAIN):
    return ("parted", name, at, low, high)


class Ended(Exception):
    """The search is over before all boxes are shown."""


def searched(grid, term, box, most):
    """What [10] tells, word by word, and how many boxes were looked at."""
    names = letters(term)
    looked = []

    def look(here):
        if len(looked) == most:
            raise Ended(OPEN)
        looked.append(here)
        stretch = exact_stretch(grid, term, here)
        if stretch is not None and stretch[0] > 0:
            return PLAIN
        middle = {name: (Fraction(sum(here[name])) / 2).__floor__() for name in names}
        worth = exact_value(term, {name: Fraction(middle[name], grid) for name in names})
        if worth is not None and not worth > 0:
            raise Ended(("met", middle))
        widths = {name: here[name][1] - here[name][0] for name in names}
        wide = [name for name in names if widths[name] == max(widths.values()) and widths[name] > 1]
        if not wide:
            raise Ended(OPEN)
        name = wide[0]
        low, high = here[name]
        first = look({**here, name: (low, middle[name])})
        return ("parted", name, middle[name], first, look({**here, name: (middle[name], high)}))

    try:
        return ("shown", look(box)), len(looked)
    except Ended as ended:
        return ended.args[0], len(looked)


class IsShowingTest(unittest.TestCase):
    def need(self, answer, grid, term, box, thing):
        self.assertIs(is_showing(grid, term, box, thing), answer)

    def test_plain(self):
        self.need(True, 10, A, {"a": (1, 5)}, PLAIN)
        self.need(False, 10, A, {"a": (0, 5)}, PLAIN)
        self.need(False, 10, A, {"a": (-1, 5)}, PLAIN)
        self.need(False, 10, A, {"a": (-5, -1)}, PLAIN)
        self.need(True, 10, A, {"a": (1, 1)}, PLAIN)
        self.need(True, 10, ONE, {}, PLAIN)
        self.need(False, 10, NOUGHT, {}, PLAIN)
        self.need(False, 10, HUMP, {"a": (0, 10)}, PLAIN)

    def test_parted(self):
        box = {"a": (0, 10)}
        self.need(True, 10, HUMP, box, part("a", 5))
        self.need(True, 10, HUMP, box, part("a", 5, part("a", 2), part("a", 9)))
        self.need(True, 10, HUMP, box, part("a", 5, PLAIN, part("a", 6, PLAIN, part("a", 7))))
        self.need(False, 10, HUMP, {"a": (-5, 40)}, part("a", 5))
        self.need(False, 10, A, {"a": (0, 10)}, part("a", 1))
        self.need(False, 10, ("minus", ONE, A), {"a": (0, 10)}, part("a", 9))
        self.need(True, 10, A, {"a": (1, 10)}, part("a", 2))

    def test_where_it_may_be_parted(self):
        for at in range(-2, 14):
            self.need(1 < at < 10, 10, A, {"a": (1, 10)}, part("a", at))
        self.need(False, 10, A, {"a": (1, 2)}, part("a", 1))
        self.need(False, 10, A, {"a": (1, 2)}, part("a", 2))
        self.need(False, 10, A, {"a": (1, 1)}, part("a", 1))
        self.need(True, 10, A, {"a": (1, 3)}, part("a", 2))
        # The parts are narrower: what may stand in the box may not in them.
        self.need(False, 10, A, {"a": (1, 10)}, part("a", 5, part("a", 5)))
        self.need(False, 10, A, {"a": (1, 10)}, part("a", 5, part("a", 7)))
        self.need(False, 10, A, {"a": (1, 10)}, part("a", 5, PLAIN, part("a", 5)))
        self.need(False, 10, A, {"a": (1, 10)}, part("a", 5, PLAIN, part("a", 3)))
        self.need(True, 10, A, {"a": (1, 10)}, part("a", 5, part("a", 3), part("a", 7)))

    def test_two_letters(self):
        term = ("plus", A, B)
        box = {"a": (1, 10), "b": (0, 6)}
        self.need(True, 10, term, box, PLAIN)
        self.need(True, 10, term, box, part("b", 3, part("a", 4), part("b", 4, part("a", 9))))
        self.need(False, 10, term, box, part("b", 3, part("b", 4), PLAIN))
        self.need(False, 10, term, box, part("b", 7))
        self.need(False, 10, term, box, part("c", 5))

    def test_only_letters_of_the_term_are_parted(self):
        self.need(False, 10, A, {"a": (1, 10), "b": (1, 10)}, part("b", 5))
        self.need(False, 10, A, {"a": (1, 10), "b": None}, part("b", 5))
        self.need(False, 10, ONE, {"a": (1, 10)}, part("a", 5))

    def test_where_the_term_has_no_stretch(self):
        term = ("power", ("over", ONE, A), 2)
        self.need(False, 10, term, {"a": (-10, 10)}, PLAIN)
        self.need(False, 10, term, {"a": (-10, 10)}, part("a", 0))
        self.need(False, 10, BROKEN, {}, PLAIN)
        self.need(True, 10, term, {"a": (1, 10)}, PLAIN)
        # Nought lies in a - a as long as it is 2 wide or more: parted, it doesn't.
        broken = ("over", ONE, stair(2))
        self.need(False, 10, broken, {"a": (0, 2)}, PLAIN)
        self.need(True, 10, broken, {"a": (0, 2)}, part("a", 1))

    def test_things_of_any_kind(self):
        box = {"a": (1, 10)}
        things = NO_PAIRS + ["plain", ["plain"], ("plain", None), ("plain", ()), (PLAIN,), ("shown", PLAIN), ("Plain",)]
        things += [(b"plain",), ("parted",), ("parted", "a"), ("parted", "a", 5), ("parted", "a", 5, PLAIN), (Unruly(),)]
        things += [("parted", "a", 5, PLAIN, PLAIN, PLAIN), ["parted", "a", 5, PLAIN, PLAIN], ("met", {"a": 5}), OPEN]
        for thing in things:
            self.need(False, 10, A, box, thing)
            self.need(False, 10, A, box, part("a", 5, thing))
            self.need(False, 10, A, box, part("a", 5, PLAIN, thing))
            self.need(False, 10, A, box, part("a", 5, PLAIN, part("a", 7, thing)))
            self.need(False, 10, A, box, part("a", 5, thing, thing))
        for thing in STRANGE + ["A", "b", "aa", "a ", ("a",), ["a"], A, 0, 5]:
            self.need(False, 10, A, box, part(thing, 5))
        for thing in STRANGE + ["5", (5,), [5], 5.0, True, THIRTY, -THIRTY]:
            self.need(False, 10, A, box, part("a", thing))
        self.need(False, 10, A, {"a": (0, 3)}, part("a", True))

    def test_very_deep_things(self):
        wide = 5000
        thing = PLAIN
        for at in range(wide - 1, 1, -1):
            thing = part("a", at, PLAIN, thing)
        self.need(True, 1, A, {"a": (1, wide)}, thing)
        self.need(False, 1, A, {"a": (1, wide - 1)}, thing)
        thing = PLAIN
        for at in range(2, wide):
            thing = part("a", at, thing)
        self.need(True, 1, A, {"a": (1, wide)}, thing)
        self.need(False, 1, A, {"a": (0, wide)}, thing)
        thing = ()
        for _ in range(100000):
            thing = (thing,)
        self.need(False, 1, A, {"a": (1, 9)}, thing)
        thing = PLAIN
        for _ in range(100000):
            thing = part("a", 5, thing, thing)
        self.need(False, 1, A, {"a": (1, 9)}, thing)

    def test_limits(self):
        self.need(True, 10 ** 9, ("letter", "abcdefgh"), {"abcdefgh": (1, 3)}, part("abcdefgh", 2))
        self.need(True, 1, deep(12), {"a": (-10, 5)}, PLAIN)
        self.need(False, 1, deep(12), {"a": (-11, 5)}, PLAIN)
        self.need(True, 1, full(30), {"a": (1, 5)}, PLAIN)
        self.need(True, 1, ("power", A, 0), {"a": (-5, 5)}, part("a", 0))
        self.need(False, 1, ("power", A, 8), {"a": (-5, 5)}, part("a", 0))
        self.need(True, 1, raised(A, 11), {"a": (THIRTY, THIRTY + 2)}, part("a", THIRTY + 1))


class SoughtTest(unittest.TestCase):
    def test_shown(self):
        self.assertEqual(sought(10, A, {"a": (1, 9)}), ("shown", PLAIN))
        self.assertEqual(sought(10, A, {"a": (1, 1)}), ("shown", PLAIN))
        self.assertEqual(sought(10, HUMP, {"a": (0, 10)}), ("shown", part("a", 5)))
        self.assertEqual(sought(10, stair(2), {"a": (0, 4)}), ("shown", part("a", 2, part("a", 1), part("a", 3))))
        self.assertEqual(sought(10, stair(2), {"a": (-3, 0)}), ("shown", part("a", -2, PLAIN, part("a", -1))))
        self.assertEqual(sought(10, stair(3), {"a": (0, 5)}), ("shown", part("a", 2, PLAIN, part("a", 3))))

    def test_met(self):
        self.assertEqual(sought(10, A, {"a": (0, 9)}), ("met", {"a": 0}))
        self.assertEqual(sought(10, A, {"a": (-9, 20)}), ("met", {"a": -2}))
        self.assertEqual(sought(10, A, {"a": (-1, 0)}), ("met", {"a": -1}))
        self.assertEqual(sought(10, A, {"a": (0, 0)}), ("met", {"a": 0}))
        self.assertEqual(sought(10, ("over", ONE, A), {"a": (-1, 1)}), ("met", {"a": -1}))
        # The middle is a half exactly: there 2 * a - 1 comes to nought.
        self.assertEqual(sought(10, ("minus", ("plus", A, A), ONE), {"a": (0, 10)}), ("met", {"a": 5}))

    def test_met_has_the_letters_rising(self):
        term = ("minus", ("letter", "c"), ("plus", ("letter", "b"), ("letter", "ab")))
        told = sought(10, term, {"c": (0, 3), "x": (1, 2), "ab": (-9, 50), "b": (0, 7)})
        self.assertEqual(told, ("met", {"ab": 20, "b": 3, "c": 1}))
        self.assertEqual(list(told[1]), ["ab", "b", "c"])

    def test_open_where_no_letter_is_wider_than_1(self):
        self.assertEqual(sought(10, ("minus", ("plus", A, TENTH), A), {"a": (1, 2)}), OPEN)
        self.assertEqual(sought(10, ("times", A, A), {"a": (1, 2)}), OPEN)
        self.assertEqual(sought(10, stair(1), {"a": (0, 9)}), OPEN)
        self.assertEqual(sought(1, ("power", ("over", ONE, A), 2), {"a": (-1, 1)}), OPEN)
        self.assertEqual(sought(1, ("power", ("over", ONE, A), 2), {"a": (0, 0)}), OPEN)

    def test_terms_without_letters(self):
        self.assertEqual(sought(10, ONE, {}), ("shown", PLAIN))
        self.assertEqual(sought(10, NOUGHT, {}), ("met", {}))
        self.assertEqual(sought(10, ("number", -1, 1000), {}), ("met", {}))
        self.assertEqual(sought(10, ("number", 1, 1000), {}), OPEN)
        self.assertEqual(sought(10, BROKEN, {"a": (0, 9)}), OPEN)

    def test_the_widest_letter_is_parted_of_like_ones_the_first_by_names(self):
        term = ("plus", stair(4), ("minus", B, B))
        self.assertEqual(sought(10, term, {"b": (0, 2), "a": (0, 2)})[1], part("a", 1))
        self.assertEqual(sought(10, term, {"a": (0, 2), "b": (5, 8)})[1][:3], ("parted", "b", 6))
        self.assertEqual(sought(10, term, {"b": (0, 4), "a": (0, 4)})[1][:3], ("parted", "a", 2))
        self.assertEqual(sought(10, term, {"b": (0, 4), "a": (0, 4)})[1][3][:3], ("parted", "b", 2))

    def test_the_low_one_is_looked_at_first_with_all_that_comes_of_it(self):
        # At 2 and at 7 tenths it isn't above nought; the low one is met.
        far = ("power", ("times", ("minus", A, ("number", 1, 5)), ("minus", A, ("number", 7, 10))), 2)
        self.assertEqual(sought(10, far, {"a": (0, 9)}), ("met", {"a": 2}))
        # In the low half it stays open: the high one, where it would be met, isn't looked at.
        both = ("minus", ("times", A, A), ("times", ("most", NOUGHT, ("minus", A, ONE)), ("number", 1000, 1)))
        self.assertEqual(sought(10, both, {"a": (1, 13)}), OPEN)
        self.assertEqual(sought(10, both, {"a": (7, 13)}), ("met", {"a": 11}))

    def test_plain_goes_before_the_middle_and_the_middle_before_parting(self):
        self.assertEqual(sought(10, A, {"a": (-1, 1)}, 1), ("met", {"a": 0}))
        self.assertEqual(sought(10, HUMP, {"a": (5, 10)}, 1), ("shown", PLAIN))
        self.assertEqual(sought(10, A, {"a": (0, 1)}, 1), ("met", {"a": 0}))


class HowManyBoxesTest(unittest.TestCase):
    def test_just_as_many_as_may_be(self):
        for most in range(1, 12):
            told = sought(10, stair(2), {"a": (0, 4)}, most)
            self.assertEqual(told[0], "shown" if most >= 7 else "open")
        self.assertEqual(sought(10, HUMP, {"a": (0, 10)}, 3), ("shown", part("a", 5)))
        self.assertEqual(sought(10, HUMP, {"a": (0, 10)}, 2), OPEN)
        self.assertEqual(sought(10, HUMP, {"a": (0, 10)}, 1), OPEN)

    def test_the_last_that_may_be_is_looked_at(self):
        self.assertEqual(sought(10, A, {"a": (-9, 20)}, 2), ("met", {"a": -2}))
        self.assertEqual(sought(10, A, {"a": (-9, 20)}, 1), OPEN)

    def test_200_unless_told_otherwise(self):
        self.assertEqual(sought(10, stair(2), {"a": (0, 100)})[0], "shown")
        self.assertEqual(sought(10, stair(2), {"a": (0, 101)}), OPEN)
        self.assertEqual(sought(10, stair(2), {"a": (0, 101)}, most=201)[0], "shown")
        self.assertEqual(sought(10, stair(2), {"a": (0, 101)}, 200), OPEN)

    def test_500_at_most(self):
        self.assertEqual(sought(10, stair(2), {"a": (0, 250)}, 500)[0], "shown")
        self.assertEqual(sought(10, stair(2), {"a": (0, 250)}, 499)[0], "shown")
        self.assertEqual(sought(10, stair(2), {"a": (0, 250)}, 498), OPEN)
        self.assertEqual(sought(10, stair(2), {"a": (0, 251)}, 500), OPEN)

    def test_as_deep_as_boxes_may_be_looked_at(self):
        self.assertEqual(sought(10, stair(2), {"a": (0, 10 ** 390)}, 500), OPEN)
        # a / a is 2 at most where the high is at most twice the low: each high half.
        term = ("minus", ("number", 3, 1), ("over", A, A))
        thing = PLAIN
        for up in range(1, 250):
            thing = part("a", 2 ** up, thing)
        self.assertEqual(sought(1, term, {"a": (1, 2 ** 250)}, 499), ("shown", thing))
        self.assertIs(is_showing(1, term, {"a": (1, 2 ** 250)}, thing), True)
        self.assertEqual(sought(1, term, {"a": (1, 2 ** 251)}, 500), OPEN)


class ManyTest(unittest.TestCase):
    def samples(self):
        for grid in [1, 4, 10]:
            terms = some_terms(["a"], 120, 4, grid) + some_terms(["a", "b"], 120, 5, grid + 1)
            terms += [("plus", ("power", one, 2), THIRD) for one in terms]
            terms += [("plus", ("times", one, one), THIRD) for one in terms[:120]]
            for term in terms:
                for box in some_boxes(["a", "b"], 2, 2 * grid, grid):
                    yield grid, term, box

    def test_what_the_document_tells_word_by_word(self):
        kinds = []
        for grid, term, box in self.samples():
            told, many = searched(grid, term, box, 60)
            self.assertEqual(sought(grid, term, box, 60), told)
            if many > 1:
                self.assertEqual(sought(grid, term, box, many), told)
                self.assertEqual(sought(grid, term, box, many - 1), OPEN)
            kinds.append((told[0], many > 1))
        for kind in ["shown", "met", "open"]:
            for more in [True, False]:
                self.assertGreater(kinds.count((kind, more)), 9, (kind, more))

    def test_what_is_shown_is_a_showing_and_what_is_met_is_not_above_nought(self):
        for grid, term, box in self.samples():
            kind, thing = sought(grid, term, box, 60)
            if kind == "shown":
                self.assertIs(is_showing(grid, term, box, thing), True)
            elif kind == "met":
                self.assertEqual(list(thing), letters(term))
                point = {}
                for name, place in thing.items():
                    self.assertTrue(box[name][0] <= place <= box[name][1])
                    exact = Fraction(place, grid)
                    point[name] = (exact.numerator, exact.denominator)
                self.assertLessEqual(value(term, point)[0], 0)
            else:
                self.assertEqual((kind, thing), OPEN)

    def test_a_showing_that_is_bent_is_none(self):
        shown = sought(10, stair(2), {"a": (0, 4)})[1]
        self.assertTrue(is_showing(10, stair(2), {"a": (0, 4)}, shown))
        for bent in [shown[3], shown[4], shown[:4], shown + (PLAIN,), ("parted", "b") + shown[2:],
                     shown[:2] + (1,) + shown[3:], shown[:2] + (4,) + shown[3:], shown[:3] + (shown[4], shown[3]),
                     shown[:4] + (PLAIN,), shown[:3] + (PLAIN,) + shown[4:], list(shown)]:
            self.assertIs(is_showing(10, stair(2), {"a": (0, 4)}, bent), False)


class RefusalTest(unittest.TestCase):
    def need_both(self, kind, grid, term, box):
        self.assertIs(refusal(is_showing, grid, term, box, PLAIN), kind)
        self.assertIs(refusal(is_showing, grid, term, box, Unruly()), kind)
        self.assertIs(refusal(sought, grid, term, box), kind)
        self.assertIs(refusal(sought, grid, term, box, 0), kind)
        self.assertIs(refusal(sought, grid, term, box, Unruly()), kind)

    def test_as_stretch_of(self):
        for grid in BAD_GRIDS:
            self.need_both(BadGrid, grid, A, {"a": (1, 2)})
            self.need_both(BadGrid, grid, None, None)
        for thing in BAD:
            self.need_both(BadTerm, 10, thing, {"a": (1, 2), "b": (1, 2)})
            self.need_both(BadTerm, 10, thing, None)
        for thing in STRANGE + ["a", ["a"]]:
            self.need_both(NoLetter, 10, A, thing)
        for thing in BAD_STRETCHES:
            self.need_both(BadStretch, 10, A, {"a": thing})
            self.need_both(BadStretch, 10, ("over", A, B), {"a": thing, "b": (0, 0)})
            self.need_both(NoLetter, 10, ("over", A, B), {"a": thing})

    def test_the_first_letter_by_names_that_lacks(self):
        term = ("plus", ("letter", "c"), ("times", ("letter", "b"), ("letter", "ba")))
        for deed in [lambda box: is_showing(10, term, box, PLAIN), lambda box: sought(10, term, box)]:
            for box, name in [({}, "b"), ({"b": (1, 2)}, "ba"), ({"b": (1, 2), "ba": None}, "c"), ({"c": 1}, "b")]:
                with self.assertRaises(NoLetter) as caught:
                    deed(box)
                self.assertEqual(caught.exception.name, name)

    def test_nought_is_not_refused(self):
        self.assertIs(refusal(is_showing, 10, BROKEN, {}, PLAIN), None)
        self.assertIs(refusal(sought, 10, BROKEN, {}), None)
        self.assertIs(refusal(sought, 10, ("over", ONE, A), {"a": (0, 0)}), None)

    def test_how_many(self):
        for thing in BAD_COUNTS:
            self.assertIs(refusal(sought, 10, A, {"a": (1, 2)}, thing), BadCount)
            self.assertIs(refusal(sought, 10, BROKEN, {}, thing), BadCount)
        for most in [1, 2, 200, 500]:
            self.assertEqual(sought(10, A, {"a": (1, 2)}, most), ("shown", PLAIN))

    def test_other_names_in_the_box_do_not_matter(self):
        for thing in STRANGE:
            box = {"zz": thing, "a": (0, 10), 7: thing}
            self.assertEqual(sought(10, HUMP, box), ("shown", part("a", 5)))
            self.assertIs(is_showing(10, HUMP, box, part("a", 5)), True)
        self.assertEqual(sought(10, A, {"zz": (0, 99), "a": (0, 4)}), ("met", {"a": 0}))


class OwnTest(unittest.TestCase):
    def test_nothing_is_changed_and_the_same_is_told_each_time(self):
        for term in [HUMP, stair(2), A, ("plus", A, B)]:
            box = {"zz": [1], "b": (0, 5), "a": (0, 10)}
            before = copy.deepcopy((term, box))
            told = sought(10, term, box)
            self.assertEqual(sought(10, term, box), told)
            thing = part("a", 5, [PLAIN])
            self.assertIs(is_showing(10, term, box, thing), False)
            self.assertEqual(thing, part("a", 5, [PLAIN]))
            self.assertEqual((term, box), before)
            self.assertEqual(list(box), ["zz", "b", "a"])

    def test_the_point_is_the_askers_own(self):
        told = sought(10, A, {"a": (0, 9)})
        told[1]["a"] = 7
        told[1]["b"] = 8
        self.assertEqual(sought(10, A, {"a": (0, 9)}), ("met", {"a": 0}))
        empty = sought(10, NOUGHT, {})
        empty[1]["a"] = 1
        self.assertEqual(sought(10, NOUGHT, {}), ("met", {}))


if __name__ == "__main__":
    unittest.main()
