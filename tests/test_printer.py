"""selfprint.printer: [27]."""

import random
import unittest

from helper import A, B, C, COUNT, ODD, Checks, deep, fun, nexts, pair, random_kind, random_programs, random_term, sum_of
from helper import wide
from selfprint.errors import BadText, InvalidKind, InvalidOutside, InvalidProgram, InvalidTerm, OpenName, TooMany
from selfprint.errors import UnknownName
from selfprint.nodes import BINDS
from selfprint.printer import write_kind, write_term, written
from selfprint.reader import read_kind, read_program, read_term
from selfprint.signs import pieces
from selfprint.terms import open_names

STEP = fun(A, A)
ONE = ("told", 1)
NAMES = list("stuvwyz") + ["q1"]


class Kinds(Checks):
    def test_each_form(self):
        for number, letter in enumerate("abcdef"):
            self.check(letter, write_kind, kind=("letter", number))
        self.check("count", write_kind, kind=COUNT)
        self.check("a * b", write_kind, kind=pair(A, B))
        self.check("a + b", write_kind, kind=sum_of(A, B))
        self.check("a > b", write_kind, kind=fun(A, B))

    def test_brackets_where_they_are_wanted(self):
        made = {"*": pair, "+": sum_of, ">": fun}
        bare_left = {"*": "*", "+": "*+", ">": "*+"}
        bare_right = {"*": "", "+": "*", ">": "*+>"}
        for mark, make in made.items():
            for inner, make_inner in made.items():
                text = f"a {inner} b" if inner in bare_left[mark] else f"(a {inner} b)"
                self.check(f"{text} {mark} c", write_kind, kind=make(make_inner(A, B), C))
                text = f"a {inner} b" if inner in bare_right[mark] else f"(a {inner} b)"
                self.check(f"c {mark} {text}", write_kind, kind=make(C, make_inner(A, B)))

    def test_read_again_and_no_brackets_but_those_wanted(self):
        rng = random.Random(16)
        for _ in range(300):
            kind = random_kind(rng, 5)
            text = write_kind(kind)
            self.assertEqual(read_kind(text), kind)
            for shorter in without_each_pair_of_brackets(text):
                self.assertNotEqual(read_kind(shorter), kind, text)

    def test_the_greatest(self):
        self.check("a > " * 11 + "a", write_kind, kind=deep(12))
        self.assertEqual(read_kind(write_kind(wide(59))), wide(59))

    def test_invalid(self):
        wrong = [None, True, 0, "a", "count", list(A), ("letter", 6), ("letter", True), deep(13), wide(61), (), [A]]
        self.check_invalid(InvalidKind, write_kind, "kind", wrong, kind=None)


def without_each_pair_of_brackets(text):
    """The text without one pair of round brackets that belong together, for each such pair."""
    begun = []
    for spot, piece in pieces(text):
        if piece == "(":
            begun.append(spot)
        if piece == ")":
            first = begun.pop()
            # A blank in the place of a bracket, so that no two pieces run together.
            yield text[:first] + " " + text[first + 1:spot] + " " + text[spot + 1:]


class Terms(Checks):
    def text(self, wanted, term, outside=()):
        self.check(wanted, write_term, term=term, outside=list(outside))
        self.check(wanted, write_term, term=tuple(term), outside=tuple(outside))
        self.assertEqual(read_term(wanted, list(outside)), list(term))

    def test_each_form(self):
        self.text("n", [("name", 0)], ["n"])
        self.text("0", [("told", 0)])
        self.text("1000000", [("told", 1000000)])
        self.text("fun x0 : a. x0", [("fun", A), ("name", 0)])
        self.text("f n", [("call",), ("name", 1), ("name", 0)], "nf")
        self.text("(1, 2)", [("both",), ONE, ("told", 2)])
        for word in ("first", "second", "next"):
            self.text(f"{word} 1", [(word,), ONE])
        self.text("left[a * b] 1", [("left", pair(A, B)), ONE])
        self.text("right[a > b] 1", [("right", fun(A, B)), ONE])
        self.text("which n (x0. x0) (x0. 1)", [("which",), ("name", 0), ("name", 0), ONE], "n")
        self.text("turns 2 (x0 : count. next x0) 0",
                  [("turns", COUNT), ("told", 2), ("next",), ("name", 0), ("told", 0)])
        self.text("let x0 = 1 in x0", [("let",), ONE, ("name", 0)])

    def test_as_the_document_writes(self):
        for text in ("fun x0 : a > a. fun x1 : a. x0 (x0 x1)", "turns 2 (x0 : count. next x0) 0",
                     "let x0 = left[a * b] 1 in x0"):
            self.check(text, write_term, term=read_term(text, []), outside=[])
        text = "fun x0 : a + count. which x0 (x1. x1) (x1. (x1, 3))"
        self.check(text, write_term, term=read_term(text, []), outside=[])

    def test_names_tell_the_binders_around(self):
        term = read_term("fun p : a. fun q : b. (p, (q, let r = p in which r (s. s) (t. q)))", [])
        self.text("fun x0 : a. fun x1 : b. (x0, (x1, let x2 = x0 in which x2 (x3. x3) (x3. x1)))", term)
        term = read_term("turns n (y : a. (fun z : a. y) y) n", ["n"])
        self.text("turns n (x0 : a. (fun x1 : a. x0) x0) n", term, ["n"])
        self.text("fun x0 : a. y", [("fun", A), ("name", 2)], ["x", "y"])
        self.text("x", [("name", 0)], ["x"])

    def test_each_child_in_brackets_where_they_are_wanted(self):
        bare = {"fun": "a", "call": "cn", "both": "aa", "first": "n", "second": "n", "left": "n", "right": "n",
                "which": "naa", "next": "n", "turns": "nan", "let": "aa"}
        loose, items, atoms = ("fun", "let", "which", "turns"), ("call", "first", "left", "next"), ("both", "told", "name")
        takes = {"a": loose + items + atoms, "c": items + atoms, "n": atoms}
        for word, wanted in bare.items():
            for place, level in enumerate(wanted):
                for inner in loose + items + atoms:
                    children = [[ONE]] * len(wanted)
                    children[place] = one_of(inner)
                    term = [head_of(word)] + [node for child in children for node in child]
                    text = write_term(term, NAMES)
                    whole = write_term(one_of(inner), NAMES)
                    self.assertEqual(read_term(text, NAMES), term)
                    in_brackets = 0 if inner in takes[level] else 1
                    own = brackets(write_term([head_of(word)] + [ONE] * len(wanted), NAMES))
                    self.assertEqual(brackets(text), own + brackets(whole) + in_brackets, text)

    def test_read_again_and_no_brackets_but_those_wanted(self):
        rng = random.Random(17)
        done = 0
        for _ in range(400):
            term = random_term(rng, 5, 4)
            if open_names(term) <= len(NAMES):
                text = write_term(term, NAMES)
                self.assertEqual(read_term(text, NAMES), term)
                for shorter in without_each_pair_of_brackets(text):
                    self.assertFalse(is_read_as(shorter, term), text)
                done += 1
        self.assertGreater(done, 200)

    def test_blanks_are_just_as_told(self):
        rng = random.Random(18)
        for program in random_programs(rng, 100, 3, 150):
            text = written(program)
            self.assertEqual(text, plainly_spaced([piece for _, piece in pieces(text)]))

    def test_open_names(self):
        self.check_error(OpenName, {}, write_term, term=[("name", 0)], outside=[])
        self.check_error(OpenName, {}, write_term, term=[("fun", A), ("name", 3)], outside=["p", "q"])
        self.text("fun x0 : a. q", [("fun", A), ("name", 2)], ["p", "q"])
        self.check_error(OpenName, {}, write_term, term=[("name", 299)], outside=list("pqrstuvw"))
        self.check_error(OpenName, {}, write_term, term=[("turns", A), ONE, ("name", 0), ("name", 0)], outside=[])
        self.check_error(OpenName, {}, write_term, term=[("let",), ("name", 0), ("name", 0)], outside=[])

    def test_too_long(self):
        for length, fits in ((7999, True), (8000, True), (8001, False)):
            term = of_length(length)
            if fits:
                text = write_term(term, [])
                self.assertEqual(len(text), length)
                self.assertEqual(written(term), text)
                self.assertEqual(read_program(text), term)
            else:
                self.check_error(TooMany, {"what": "text", "limit": 8000}, write_term, term=term, outside=[])
                self.check_error(TooMany, {"what": "text", "limit": 8000}, written, program=term)

    def test_an_open_name_ahead_of_too_long(self):
        term = of_length(8001)
        self.check_error(OpenName, {}, write_term, term=term[:-1] + [("name", 299)], outside=[])

    def test_deep_brackets_are_written_but_not_read(self):
        self.check("next (" * 298 + "next 1" + ")" * 298, write_term, term=nexts(300, ONE), outside=[])
        self.check_error(TooMany, {"what": "brackets", "limit": 40}, read_program, text=written(nexts(60)))
        self.assertEqual(read_program(written(nexts(42))), nexts(42))
        self.check_error(TooMany, {"what": "brackets", "limit": 40}, read_program, text=written(nexts(43)))

    def test_invalid(self):
        self.check_invalid(InvalidTerm, write_term, "term", ODD + [[], nexts(301)], term=None, outside=[])
        wrong = [None, "x", {"x"}, ["x", "x"], ["x1"], ["fun"], [1], ["X"], [""], list("abcdefghi"), [None]]
        self.check_invalid(InvalidOutside, write_term, "outside", wrong, term=[("name", 0)], outside=None)
        self.check_error(InvalidTerm, {"value": 0}, write_term, term=0, outside=0)


class Written(Checks):
    def test_written(self):
        self.check("fun x0 : a > a. x0", written, program=[("fun", STEP), ("name", 0)])
        self.check("fun x0 : a > a. x0", written, program=(("fun", STEP), ("name", 0)))

    def test_invalid(self):
        wrong = ODD + [[("name", 0)], [("first",), ONE], nexts(301), [("next",), ("fun", A), ("name", 0)]]
        self.check_invalid(InvalidProgram, written, "program", wrong, program=None)


def head_of(word):
    return (word, A) if word in ("fun", "left", "right", "turns") else (word,)


def one_of(word):
    """A term whose first node has this word."""
    if word == "name":
        return [("name", 7)]
    return [("told", 2)] if word == "told" else [head_of(word)] + [("told", 3)] * len(BINDS[word])


def brackets(text):
    return text.count("(")


def is_read_as(text, term):
    try:
        return read_term(text, NAMES) == term
    except (BadText, UnknownName):
        return False


def plainly_spaced(row):
    """The pieces with the blanks that [27] tells of."""
    text = ""
    for place, piece in enumerate(row):
        before = row[place - 1] if place else ""
        ends_atom = before == ")" or before[:1].isalnum()
        blank = before in list(":.,]>+*=") or piece in list(":>+*=") or piece == "in"
        if before in ("fun", "let", "in", "which", "turns", "first", "second", "next"):
            blank = True
        # Behind an atom, an arm or a step comes an atom, an arm or a step.
        if ends_atom and (piece == "(" or piece[:1].isalnum()):
            blank = True
        if before in ("(", "[") or not before:
            blank = False
        text += (" " if blank else "") + piece
    return text


def of_length(length):
    """A program that is written with so many signs."""
    term, around = [], 0
    while True:
        row = f"let x{around} = fun x{around} : {write_kind(wide(57))}. 0 in "
        if length < len(row) + 40:
            return term + filled_up(around, length)
        term += [("let",), ("fun", wide(57)), ("told", 0)]
        around, length = around + 1, length - len(row)


def filled_up(around, length):
    """Lets around a told count, written with so many signs; None if it cannot be."""
    if 1 <= length <= 7:
        return [("told", 10 ** (length - 1))]
    for told in [10 ** figures for figures in range(7)]:
        row = f"let x{around} = {told} in "
        rest = filled_up(around + 1, length - len(row)) if length > len(row) else None
        if rest is not None:
            return [("let",), ("told", told)] + rest
    return None


if __name__ == "__main__":
    unittest.main()
