"""selfprint.signs: [21]."""

import unittest

from helper import ODD, Checks
from selfprint.errors import BadText, InvalidText
from selfprint.signs import pieces

NO_TEXTS = [value for value in ODD if not isinstance(value, str)]
MARKS = ": . , ( ) [ ] * + > =".split()


class Pieces(Checks):
    def words(self, text):
        return [piece for _, piece in pieces(text)]

    def test_none(self):
        for text in ("", " ", "\n", "  \n \n", "# all remark", "#", "##\n#\n", " # one\n# two"):
            self.check([], pieces, text=text)

    def test_spots(self):
        self.check([(0, "a")], pieces, text="a")
        self.check([(2, "a"), (5, "b")], pieces, text="  a\n\nb ")
        self.check([(0, "f"), (1, "("), (2, "x"), (3, ")")], pieces, text="f(x)")

    def test_words(self):
        for word in ("a", "z", "fun", "funny", "x1", "a0b1", "let", "xx", "count", "q" * 300):
            self.check([(0, word)], pieces, text=word)

    def test_words_take_figures_and_counts_take_none_else(self):
        self.check([(0, "x12y"), (5, "12"), (7, "x")], pieces, text="x12y 12x")
        self.check([(0, "1"), (1, "fun"), (5, "in2")], pieces, text="1fun in2")

    def test_counts(self):
        for count in ("0", "7", "007", "1000000", "123456789" * 100):
            self.check([(0, count)], pieces, text=count)

    def test_marks(self):
        for mark in MARKS:
            self.check([(0, mark)], pieces, text=mark)
            self.check([(0, "a"), (1, mark), (2, "a")], pieces, text=f"a{mark}a")
        self.assertEqual(self.words("".join(MARKS)), MARKS)
        self.assertEqual(self.words(">=>="), [">", "=", ">", "="])

    def test_gaps(self):
        for gap in (" ", "\n", "   ", " \n ", "# fun x\n", "#\n", " # one\n # two\n", "#(\n\n#)\n"):
            self.check([(0, "a"), (1 + len(gap), "b")], pieces, text=f"a{gap}b")
            self.check([(0, "1"), (1 + len(gap), "2")], pieces, text=f"1{gap}2")

    def test_a_remark_goes_to_the_end_of_its_row(self):
        self.check([(0, "a")], pieces, text="a# b $ ~ A")
        self.check([(0, "a"), (6, "c")], pieces, text="a#b $\nc")

    def test_signs_that_begin_none(self):
        for sign in "!\"$&'-/;<?@ABCXYZ\\^_`{|}~":
            self.check_error(BadText, {"spot": 0}, pieces, text=sign)
            self.check_error(BadText, {"spot": 3}, pieces, text=f"ab {sign} $")
            self.check_error(BadText, {"spot": 2}, pieces, text=f"ab{sign}")
            self.check_error(BadText, {"spot": 4}, pieces, text=f"a#{sign}\n{sign}")
            self.check([(0, "a")], pieces, text=f"a #{sign}")

    def test_invalid(self):
        self.check_invalid(InvalidText, pieces, "text", NO_TEXTS, text=None)


if __name__ == "__main__":
    unittest.main()
