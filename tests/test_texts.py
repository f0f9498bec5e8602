import copy
import re
import unittest

from boundsums.errors import BadTerm, BadText
from boundsums.texts import read, written
from tests.test_terms import A, B, BAD, BROKEN, GOOD, NOUGHT, ONE, deep, full, raised
from tests.things import STRANGE, THIRTY, Unruly, refusal, some_terms

LEAST = ("letter", "least")
MOST = ("letter", "most")
TEXTS = [
    ("a", A), ("abcdefgh", ("letter", "abcdefgh")), ("least", LEAST), ("most", MOST),
    ("leasta", ("letter", "leasta")), ("plus", ("letter", "plus")), ("letter", ("letter", "letter")),
    ("0", NOUGHT), ("1", ONE), ("-1", ("number", -1, 1)), ("1/2", ("number", 1, 2)), ("-3/7", ("number", -3, 7)),
    ("10", ("number", 10, 1)), ("100/9", ("number", 100, 9)),
    ("999999999999", ("number", 10 ** 12 - 1, 1)), ("-999999999999", ("number", 1 - 10 ** 12, 1)),
    ("1/999999999999", ("number", 1, 10 ** 12 - 1)),
    ("-999999999999/999999999998", ("number", 1 - 10 ** 12, 10 ** 12 - 2)),
    ("(a + b)", ("plus", A, B)), ("(a - b)", ("minus", A, B)), ("(a * b)", ("times", A, B)),
    ("(a / b)", ("over", A, B)), ("least(a, b)", ("least", A, B)), ("most(a, b)", ("most", A, B)),
    ("(a ^ 0)", ("power", A, 0)), ("(a ^ 2)", ("power", A, 2)), ("(a ^ 8)", ("power", A, 8)),
    ("(a - -1)", ("minus", A, ("number", -1, 1))), ("(-1 - a)", ("minus", ("number", -1, 1), A)),
    ("(1 / 2)", ("over", ONE, ("number", 2, 1))), ("(1/2 / 1/3)", ("over", ("number", 1, 2), ("number", 1, 3))),
    ("(1 / 0)", BROKEN), ("((a ^ 2) ^ 3)", ("power", ("power", A, 2), 3)), ("(-1 ^ 2)", ("power", ("number", -1, 1), 2)),
    ("(least + most)", ("plus", LEAST, MOST)), ("least(least, most)", ("least", LEAST, MOST)),
    ("most(least(a, b), (most ^ 2))", ("most", ("least", A, B), ("power", MOST, 2))),
    ("((a + b) * (a - 1/2))", ("times", ("plus", A, B), ("minus", A, ("number", 1, 2)))),
]
BAD_TEXTS = [
    "", " ", "()", "(", ")", "a ", " a", "a b", "ab cd", "A", "aB", "a1", "1a", "a_b", "abcdefghi", "?", "a\n", "\na",
    "-", "+", "/", "^", ",", "+1", "--1", "- 1", "-a", "-(a + b)", "-0", "00", "01", "-01", "007", "1.0", "1e3", "0x1",
    "1_000", "1,000", "1/1", "-1/1", "2/4", "-2/4", "0/1", "0/5", "3/3", "1/0", "0/0", "1/-2", "-1/-2", "1/+2", "1/02",
    "1/", "/2", "1/2/3", "1 /2", "1/ 2", "1 / 2", "1000000000000", "-1000000000000", "1/1000000000000", "9" * 1999,
    "1/" + "9" * 1900, "-" * 1999, "(a)", "((a + b))", "(1)", "(a +b)", "(a+ b)", "(a+b)", "( a + b)", "(a + b )",
    "(a  + b)", "(a +  b)", "(a + b", "a + b)", "a + b", "(a + b))", "(a + b) ", " (a + b)", "(a b)", "(a  b)", "(a + )",
    "( + b)", "(a + b + c)", "(a % b)", "(a ** b)", "(a // b)", "(a, b)", "(a = b)", "(a plus b)", "[a + b]", "{a + b}",
    "(a ^ 9)", "(a ^ 10)", "(a ^ -1)", "(a ^ +1)", "(a ^ -0)", "(a ^ 00)", "(a ^ 02)", "(a ^ b)", "(a ^ 1/2)", "(a ^ 2/1)",
    "(a ^2)", "(a^ 2)", "(a^2)", "(a ^ 2 )", "(a ^  2)", "(a ^ )", "a ^ 2", "(a ^ (2))", "(2 ^ a)", "(a ^ 2",
    "least()", "least(a)", "least(a,b)", "least(a , b)", "least(a,  b)", "least (a, b)", "least( a, b)", "least(a, b )",
    "least(a, b", "least(a, b))", "least(a, b, c)", "Least(a, b)", "LEAST(a, b)", "most(a)", "most(a,b)", "most (a, b)",
    "plus(a, b)", "over(a, b)", "power(a, 2)", "number(1, 2)", "letter(a)", "a(b)", "aleast(a, b)", "leasta(a, b)",
    "leastmost(a, b)", "min(a, b)", "max(a, b)", "(least(a, b))", "least(", "most(", "least)", "(a + least(a, b)", "('a')",
]


def deepened(text, levels):
    for _ in range(levels - 1):
        text = f"({text} + 1)"
    return text


def is_some_text(text):
    """Whether a short text is that of a term, told by another way than reading it.

    What is a term's text is made T again and again, from within; as here no
    number and no name is too long, and nothing too deep, signs are all that counts.
    """
    whole = re.compile(r"0|-?[1-9][0-9]*(/([2-9]|[1-9][0-9]+))?")
    if "T" in text or not re.fullmatch(r"[a-z0-9 +*/^,()-]*", text):
        return False
    for number in re.findall(r"(?<!\^ )(?<![0-9/-])-?[0-9]+(?:/[0-9]+)?(?![0-9/])", text):
        top, _, bottom = number.partition("/")
        common = [k for k in range(2, 100) if int(top) % k == 0 and int(bottom or 1) % k == 0]
        if not whole.fullmatch(number) or common:
            return False
    text = re.sub(r"\^ [0-8]\)", "^ N)", text)
    text = re.sub(r"(?<![0-9a-z/-])-?[0-9]+(/[0-9]+)?(?![0-9a-z/])", "T", text)
    text = re.sub(r"(?<![0-9a-zT])(?!(?:least|most)\()[a-z]{1,8}(?![0-9a-zT(])", "T", text)
    before = None
    while before != text:
        before = text
        text = re.sub(r"\(T [-+*/] T\)|(?<![a-zT0-9])(?:least|most)\(T, T\)|\(T \^ N\)", "T", text)
    return text == "T"


class WrittenTest(unittest.TestCase):
    def test_plain_examples(self):
        for text, term in TEXTS:
            self.assertEqual(written(term), text)

    def test_limits(self):
        self.assertEqual(written(deep(12)), deepened("a", 12))
        self.assertEqual(written(raised(A, 11)), "(" * 11 + "a" + " ^ 1)" * 11)
        self.assertEqual(written(full(30)).count("a"), 30)

    def test_what_is_no_term_is_refused(self):
        for place, thing in enumerate(BAD):
            with self.subTest(place=place):
                self.assertIs(refusal(written, thing), BadTerm)


class ReadTest(unittest.TestCase):
    def test_plain_examples(self):
        for text, term in TEXTS:
            self.assertEqual(read(text), term)

    def test_what_is_written_is_read(self):
        terms = GOOD + [term for _, term in TEXTS]
        terms += some_terms(["a", "b", "least", "most", "abcdefgh"], 600, 5)
        for term in terms:
            self.assertEqual(read(written(term)), term)

    def test_bad_texts(self):
        for text in BAD_TEXTS:
            with self.subTest(text=text[:40]):
                self.assertIs(refusal(read, text), BadText)

    def test_things_that_are_no_texts(self):
        others = [thing for thing in STRANGE if type(thing) is not str]
        others += [b"a", ["a"], ("a",), A, 7, THIRTY, {"a": 1}, [Unruly()], bytearray(b"a")]
        for thing in others + [thing for thing in STRANGE if type(thing) is str and thing != "1"]:
            self.assertIs(refusal(read, thing), BadText)

    def test_beyond_a_terms_limits(self):
        self.assertEqual(read(deepened("a", 12)), deep(12))
        self.assertIs(refusal(read, deepened("a", 13)), BadText)
        self.assertEqual(read("(" * 11 + "a" + " ^ 1)" * 11), raised(A, 11))
        self.assertIs(refusal(read, "(" * 12 + "a" + " ^ 1)" * 12), BadText)
        self.assertIs(refusal(read, "least(" * 12 + "a" + ", b)" * 12), BadText)
        self.assertIs(refusal(read, "(a + " * 12 + "a" + ")" * 12), BadText)
        thirty = written(full(30))
        self.assertEqual(read(f"({thirty} ^ 2)"), ("power", full(30), 2))
        self.assertIs(refusal(read, f"(({thirty} ^ 2) ^ 2)"), BadText)
        self.assertIs(refusal(read, f"({thirty} + a)"), BadText)

    def test_long_texts(self):
        for signs in ["(", ")", "least(", "most(", "a", "1", "-", "/", " ", "(a + ", "((a ^ 2) * ", "~", "1/", "(("]:
            self.assertIs(refusal(read, (signs * 2000)[:2000]), BadText)
        self.assertIs(refusal(read, "(" * 1000 + "a" + ")" * 999), BadText)
        self.assertIs(refusal(read, "(" * 333 + "a" + " ^ 1)" * 333), BadText)
        for signs in ["(", "least(", "most(a, ", "(a * ", "((a ^ 2) - "]:
            self.assertIs(refusal(read, signs * 5000), BadText)


class BentTest(unittest.TestCase):
    """A text that is bent by one sign is refused, unless it is another term's own text."""

    def need_right(self, bent):
        told = refusal(read, bent)
        self.assertIs(told, None if is_some_text(bent) else BadText, bent)
        if told is None:
            self.assertEqual(written(read(bent)), bent)

    def test_each_sign_left_out_put_in_and_put_for_another(self):
        signs = "a0129 +-*/^,()A_.~\n"
        for text in ["a", "0", "-12", "3/7", "(a + b)", "(a - -1/2)", "least(a, 1)", "((most ^ 2) / -3)"]:
            for place in range(len(text)):
                self.need_right(text[:place] + text[place + 1:])
                for sign in signs:
                    self.need_right(text[:place] + sign + text[place + 1:])
            for place in range(len(text) + 1):
                for sign in signs:
                    self.need_right(text[:place] + sign + text[place:])

    def test_two_neighbours_changed_about(self):
        for text, _ in TEXTS:
            for place in range(len(text) - 1):
                bent = text[:place] + text[place + 1] + text[place] + text[place + 2:]
                if len(text) < 12:
                    self.need_right(bent)

    def test_the_other_way_knows_texts(self):
        for text, _ in TEXTS:
            self.assertTrue(is_some_text(text) or len(text) > 12, text)


class OwnTest(unittest.TestCase):
    def test_the_same_each_time_and_nothing_is_changed(self):
        for term in GOOD:
            before = copy.deepcopy(term)
            text = written(term)
            self.assertEqual(written(term), text)
            self.assertEqual(read(text), read(text))
            self.assertEqual(term, before)


if __name__ == "__main__":
    unittest.main()
