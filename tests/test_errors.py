import unittest

from boundsums import errors

PLAIN = ["BadGrid", "BadStretch", "BadFraction", "BadTerm", "BadText", "ByNought", "BadCount"]


class ErrorsTest(unittest.TestCase):
    def test_all_stand_straight_under_bound_error(self):
        self.assertEqual(errors.BoundError.__bases__, (ValueError,))
        for name in PLAIN + ["NoLetter"]:
            self.assertEqual(getattr(errors, name).__bases__, (errors.BoundError,), name)

    def test_plain_ones_are_raised_with_a_text_or_with_none(self):
        for name in PLAIN:
            made = getattr(errors, name)
            self.assertEqual(str(made("why")), "why")
            self.assertIsInstance(made(), ValueError)

    def test_no_letter_has_its_name(self):
        self.assertEqual(errors.NoLetter("ab").name, "ab")
        self.assertEqual(errors.NoLetter(name="c").name, "c")
        self.assertIn("ab", str(errors.NoLetter("ab")))


if __name__ == "__main__":
    unittest.main()
