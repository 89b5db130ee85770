"""selfprint.reader: [22] to [26]."""

import random
import unittest

from helper import A, B, C, COUNT, ODD, Checks, deep, first_fault, fun, pair, random_kind, random_programs, sum_of, wide
from selfprint.errors import BadKind, BadText, InvalidOutside, InvalidText, TooMany, UnknownName
from selfprint.kinds import put_kind
from selfprint.printer import write_kind, written
from selfprint.reader import read_kind, read_program, read_term
from selfprint.signs import pieces

NO_TEXTS = [value for value in ODD if not isinstance(value, str)]
STEP = fun(A, A)
ONE = ("told", 1)


def many(what, limit):
    return {"what": what, "limit": limit}


class Kinds(Checks):
    def test_basic(self):
        for number, letter in enumerate("abcdef"):
            self.check(("letter", number), read_kind, text=letter)
        self.check(COUNT, read_kind, text="count")
        self.check(A, read_kind, text="((a))")

    def test_marks(self):
        self.check(pair(A, B), read_kind, text="a * b")
        self.check(sum_of(A, B), read_kind, text="a + b")
        self.check(fun(A, B), read_kind, text="a > b")

    def test_what_binds_closer(self):
        self.check(sum_of(A, pair(B, C)), read_kind, text="a + b * c")
        self.check(sum_of(pair(A, B), C), read_kind, text="a * b + c")
        self.check(fun(A, sum_of(B, C)), read_kind, text="a > b + c")
        self.check(fun(sum_of(A, B), C), read_kind, text="a + b > c")
        self.check(fun(A, pair(B, C)), read_kind, text="a > b * c")
        self.check(fun(pair(A, B), C), read_kind, text="a * b > c")

    def test_rows(self):
        self.check(pair(pair(A, B), C), read_kind, text="a * b * c")
        self.check(sum_of(sum_of(A, B), C), read_kind, text="a + b + c")
        self.check(fun(A, fun(B, C)), read_kind, text="a > b > c")
        self.check(sum_of(sum_of(A, pair(B, C)), pair(A, B)), read_kind, text="a+b*c+a*b")

    def test_brackets(self):
        self.check(pair(A, pair(B, C)), read_kind, text="a * (b * c)")
        self.check(sum_of(A, sum_of(B, C)), read_kind, text="a + (b + c)")
        self.check(fun(fun(A, B), C), read_kind, text="(a > b) > c")
        self.check(pair(sum_of(A, B), C), read_kind, text="(a + b) * c")
        self.check(pair(A, fun(B, C)), read_kind, text="a * (b > c)")

    def test_gaps(self):
        self.check(fun(pair(A, COUNT), A), read_kind, text="a*count>a")
        self.check(fun(pair(A, COUNT), A), read_kind, text=" # kind\na\n*# of pairs\ncount >a # end")

    def test_faults(self):
        for text, spot in (("", 0), ("  ", 2), ("a >", 3), ("a > # b", 7), ("g", 0), ("ab", 0), ("a b", 2), ("(a", 2), ("a)", 1),
                           ("()", 1), ("> a", 0), ("a > > a", 4), ("a + * b", 4), ("fun", 0), ("1", 0), ("a1", 0),
                           ("count1", 0), ("a, b", 1), ("[a]", 0), ("a * A", 4), ("A", 0), ("(a $", 3), ("a > a.", 5),
                           ("a -> a", 2), ("count count", 6)):
            self.check_error(BadText, {"spot": spot}, read_kind, text=text)

    def test_too_great(self):
        self.check(A, read_kind, text="(" * 40 + "a" + ")" * 40)
        self.check_error(TooMany, many("brackets", 40), read_kind, text="(" * 41 + "a" + ")" * 41)
        self.check_error(TooMany, many("brackets", 40), read_kind, text="(" * 1900 + "a" + ")" * 1900)
        self.check(wide(59), read_kind, text=write_kind(wide(59)))
        self.check_error(TooMany, many("signs", 60), read_kind, text=f"({write_kind(wide(59))}) * a")
        self.check(deep(12), read_kind, text="a > " * 11 + "a")
        self.check_error(TooMany, many("depth", 12), read_kind, text="a > " * 12 + "a")
        self.check_error(TooMany, many("depth", 12), read_kind, text="a * " * 12 + "a")
        self.check_error(TooMany, many("depth", 12), read_kind, text="(" * 40 + "a + " * 12 + "a" + ")" * 40)
        self.check_error(TooMany, many("signs", 60), read_kind, text="a>" * 1999 + "a")

    def test_counts_are_one_sign_and_one_deep(self):
        row = write_kind(wide(59)).replace("a", "count")
        self.check(put_kind(wide(59), 0, COUNT), read_kind, text=row)
        self.check_error(TooMany, many("signs", 60), read_kind, text=f"({row}) * count")
        self.check(put_kind(deep(12), 0, COUNT), read_kind, text="count > " * 11 + "count")
        self.check_error(TooMany, many("depth", 12), read_kind, text="count > " * 12 + "count")
        self.check_error(TooMany, many("depth", 12), read_kind, text="count * " * 12 + "count")

    def test_the_sequence_of_what_is_too_great(self):
        self.check_error(TooMany, many("brackets", 40), read_kind, text="(" * 41 + "a" + " > a)" * 41)
        self.check_error(TooMany, many("signs", 60), read_kind, text="a > " * 30 + "a")
        self.check_error(TooMany, many("depth", 12), read_kind, text="a > " * 29 + "a")
        self.check_error(BadText, {"spot": 400}, read_kind, text="(" * 400)
        self.check_error(BadText, {"spot": 3602}, read_kind, text="(" * 900 + "a>" * 900 + "a" + ")" * 900 + " b")

    def test_invalid(self):
        self.check_invalid(InvalidText, read_kind, "text", NO_TEXTS, text=None)


class Terms(Checks):
    def read(self, wanted, text, outside=()):
        self.check(wanted, read_term, text=text, outside=list(outside))
        self.check(wanted, read_term, text=text, outside=tuple(outside))

    def test_atoms(self):
        self.read([("name", 0)], "x", ["x"])
        self.read([("told", 7)], "007")
        self.read([ONE], "((1))")
        self.read([("both",), ONE, ("told", 2)], "(1, 2)")
        self.read([("both",), ("both",), ONE, ("told", 2), ("told", 3)], "((1, 2), 3)")
        self.read([("both",), ("fun", A), ("name", 0), ("let",), ONE, ("name", 0)], "(fun x:a.x,let x=1in x)")

    def test_items(self):
        for word in ("first", "second", "next"):
            self.read([(word,), ONE], f"{word} 1")
            self.read([(word,), (word,), ONE], f"{word} ({word} 1)")
            self.read([("call",), (word,), ONE, ("told", 2)], f"{word} 1 2")
            self.read([("call",), ("told", 2), (word,), ONE], f"2 ({word} 1)")
            self.check_error(BadText, {"spot": 2}, read_term, text=f"2 {word} 1", outside=[])
            self.check_error(BadText, {"spot": len(word) + 1}, read_term, text=f"{word} {word} 1", outside=[])
        for word in ("left", "right"):
            self.read([(word, fun(A, B)), ONE], f"{word}[a > b] 1")
            self.read([("call",), (word, COUNT), ONE, ("told", 2)], f"{word}[count]1 2")
            self.read([(word, A), (word, B), ONE], f"{word} [ a ] ({word} [b] 1)")

    def test_calls(self):
        f, x, y = ("name", 0), ("name", 1), ("name", 2)
        self.read([("call",), f, x], "f x", "fxy")
        self.read([("call",), ("call",), f, x, y], "f x y", "fxy")
        self.read([("call",), f, ("call",), x, y], "f (x y)", "fxy")
        self.read([("call",), ("call",), f, x, y], "((f x) y)", "fxy")
        self.read([("call",), ("call",), ONE, ("told", 2), x], "1 2x", "fxy")
        self.read([("call",), f, ("both",), x, y], "f(x,y)", "fxy")
        self.read([("call",), ("fun", A), ("name", 0), x], "(fun x : a. x) x", "fxy")

    def test_funs_go_as_far_as_they_can(self):
        self.read([("fun", A), ("call",), ("name", 0), ("name", 1)], "fun x : a. x y", "y")
        self.read([("fun", fun(A, A)), ("fun", B), ("call",), ("name", 1), ("name", 0)], "fun f : a > a. fun x : b. f x")

    def test_let(self):
        self.read([("let",), ONE, ("call",), ("name", 0), ("name", 1)], "let x = 1 in x y", "y")
        self.read([("let",), ("name", 0), ("name", 0)], "let x = x in x", "x")
        self.read([("let",), ("let",), ONE, ("name", 0), ("name", 0)], "let x = let y = 1 in y in x")
        self.read([("let",), ("name", 0), ("let",), ("name", 0), ("name", 0)], "let x = x in let x = x in x", "x")
        self.check_error(UnknownName, {"spot": 8}, read_term, text="let x = x in x", outside=[])

    def test_which(self):
        self.read([("which",), ("name", 0), ("name", 0), ("name", 1)], "which s (x. x) (y. s)", "s")
        self.read([("which",), ("both",), ONE, ONE, ("name", 0), ("next",), ("name", 0)], "which(1,1)(x.x)(x.next x)")
        self.check_error(BadText, {"spot": 8}, read_term, text="which s s (x. x) (y. s)", outside=["s"])

    def test_turns(self):
        self.read([("turns", COUNT), ("told", 2), ("next",), ("name", 0), ("told", 0)], "turns 2 (x : count. next x) 0")
        self.read([("turns", A), ("name", 0), ("name", 0), ("name", 0)], "turns n (n : a. n) n", "n")
        self.check_error(BadText, {"spot": 21}, read_term, text="turns 2 (x : a. x) 0 1", outside=[])

    def test_names(self):
        self.read([("fun", A), ("fun", B), ("name", 0)], "fun x : a. fun x : b. x")
        self.read([("fun", A), ("fun", B), ("name", 1)], "fun y : a. fun x : b. y")
        self.read([("fun", A), ("both",), ("fun", B), ("name", 0), ("name", 0)], "fun x : a. (fun x : b. x, x)")
        for letter in "abcdef":
            self.read([("fun", A), ("name", 0)], f"fun {letter} : a. {letter}")
        for name in ("g", "lets", "in2", "fun1", "countx", "x0", "a1b2"):
            self.read([("fun", A), ("name", 0)], f"fun {name}:a.{name}")
        for word in "fun let in which turns first second next left right count".split():
            self.check_error(BadText, {"spot": 4}, read_term, text=f"fun {word} : a. 1", outside=[])

    def test_outside(self):
        self.read([("name", 0)], "x", ["x", "y"])
        self.read([("name", 1)], "y", ["x", "y"])
        self.read([("fun", A), ("name", 2)], "fun z : a. y", ["x", "y"])
        self.read([("fun", A), ("name", 0)], "fun y : a. y", ["x", "y"])
        self.read([("which",), ("name", 0), ("name", 1), ("name", 0)], "which x (y. x) (x. x)", ["x", "y"])
        self.read([("name", 7)], "h", "abcdefgh")

    def test_gaps_wherever_one_likes(self):
        text = "let p=(fun x:a>a*b+count.x,next 1)in which(left[a]p)(x.first x)(y.turns 2(z:count.z)3)"
        wanted = read_term(text, [])
        for gap in (" ", "\n", "  \n ", "# ( fun $\n", " #\n"):
            self.read(wanted, gap + gap.join(piece for _, piece in pieces(text)) + gap)

    def test_unknown_names(self):
        for text, spot in (("x", 0), ("fun x : a. y", 11), ("(1, (y, z))", 5), ("f x", 0), ("(fun x : a. x) x", 15),
                           ("which 1 (x. y) (y. x)", 12), ("which 1 (x. x) (y. x)", 19), ("turns n (n : a. n) n", 6),
                           ("turns 1 (n : a. n) n", 19), ("let x = 1 in (y, x)", 14)):
            self.check_error(UnknownName, {"spot": spot}, read_term, text=text, outside=[])
        self.check_error(UnknownName, {"spot": 2}, read_term, text="x y z", outside=["x", "z"])

    def test_written_programs(self):
        rng = random.Random(13)
        for program in random_programs(rng, 100, 3, 120):
            self.assertEqual(read_term(written(program), []), program)
            self.assertEqual(read_program(written(program)), program)


class Faults(Checks):
    def bad(self, spot, text):
        self.check_error(BadText, {"spot": spot}, read_term, text=text, outside=[])
        self.check_error(BadText, {"spot": spot}, read_program, text=text)

    def test_at_the_end(self):
        for text in ("", " ", "# x", "fun", "fun x", "fun x :", "fun x : a", "fun x : a >", "fun x : a.", "(", "(1", "(1,",
                     "(1, 2", "first", "left", "left[", "left[a", "left[a]", "let", "let x", "let x =", "let x = 1",
                     "let x = 1 in", "which", "which 1", "which 1 (", "which 1 (x", "which 1 (x.", "which 1 (x. x",
                     "which 1 (x. x)", "which 1 (x. x) (y. y", "turns", "turns 1", "turns 1 (", "turns 1 (x", "turns 1 (x :",
                     "turns 1 (x : a", "turns 1 (x : a.", "turns 1 (x : a. x", "turns 1 (x : a. x)", "1 (", "1 (2"):
            for gap in ("", " ", "\n# end", "  \n"):
                self.bad(len(text + gap), text + gap)

    def test_at_a_piece(self):
        for text, spot in ((")", 0), ("in", 0), ("count", 0), ("1)", 1), ("1 in", 2), ("fun 1", 4), ("fun x . a", 6), ("fun x : 1", 8),
                           ("fun x : g. x", 8), ("fun x : a x", 10), ("fun x : a > . x", 12), ("()", 1), ("(1 2, 3, 4)", 7),
                           ("(1,)", 3), ("first first 1", 6), ("left 1", 5), ("left[1]", 5), ("left(a) 1", 4), ("left[a) 1", 6),
                           ("let x 1", 6), ("let x : a = 1", 6), ("let 1 = 1", 4), ("let x = in", 8), ("which which", 6),
                           ("which 1 (x : a. x)", 11), ("which 1 x", 8), ("which 1 (x. x) 1", 15), ("turns 1 (x. x) 1", 10),
                           ("turns 1 (x : a. x) fun", 19), ("1 fun x : a. x", 2), ("1 let x = 1 in x", 2), ("f = 1", 2), ("1 : a", 2),
                           ("[1]", 0), ("1 * 2", 2), ("1 + 2", 2), ("1 > 2", 2), ("1.", 1), ("1, 2", 1), ("next", 4),
                           ("which 1 (x. x) (y. y) 1", 22)):
            self.bad(spot, text)

    def test_a_sign_that_begins_no_piece(self):
        for text, spot in (("$", 0), ("1 $", 2), ("(1 $", 3), ("fun $", 4), ("fun x : A. x", 8), ("1 # $\n$", 6), ("(1, 2)~", 6),
                           ("x_1", 1), ("X", 0), ("1 - 1", 2)):
            self.bad(spot, text)

    def test_the_first_fault_tells(self):
        for text, spot in ((") $", 0), ("$ )", 0), ("(1 ] $", 3), ("fun x a $", 6), ("y $", 2), ("y )", 2), ("fun x : a. y )", 13)):
            self.bad(spot, text)

    def test_a_deep_text(self):
        self.bad(4000, "(" * 4000)
        self.bad(2001, "(" * 2000 + "1" + "]" * 1999)
        self.bad(4000, "next(" * 800)
        self.bad(3996, "let x=" * 666)

    def test_as_the_grammar_says(self):
        rng = random.Random(14)
        texts = [written(program) for program in random_programs(rng, 60, 2, 40)]
        rows = [[piece for _, piece in pieces(text)] for text in texts]
        seen = {None: 0, False: 0, True: 0}
        for _ in range(1500):
            row = self.with_a_fault(rng, rng.choice(rows), rng.choice(rows))
            seen[self.compare(rng, row, "TERM", lambda text: read_term(text, []))] += 1
        self.assertGreater(min(seen.values()), 40)

    def test_kinds_as_the_grammar_says(self):
        rng = random.Random(15)
        rows = [[piece for _, piece in pieces(write_kind(random_kind(rng, 4)))] for _ in range(60)]
        seen = {None: 0, False: 0, True: 0}
        for _ in range(1000):
            row = self.with_a_fault(rng, rng.choice(rows), rng.choice(rows) + ["x", "[", "."])
            seen[self.compare(rng, row, "KIND", read_kind)] += 1
        self.assertGreater(min(seen.values()), 40)

    def with_a_fault(self, rng, row, other):
        """The row of pieces with a few of them gone, put in, changed, or all cut off behind one."""
        row = list(row)
        for _ in range(rng.randrange(3)):
            place = rng.randrange(len(row))
            row[place:place + rng.randrange(2)] = rng.choice(([], [rng.choice(other)], [rng.choice(other)]))
            row = row or ["("]
        return row[:rng.randrange(1, len(row) + 1)] if rng.randrange(4) == 0 else row

    def compare(self, rng, row, head, read):
        text, spots = "", []
        for piece in row:
            text += rng.choice((" ", "\n", "# (\n", "  "))
            spots.append(len(text))
            text += piece
        fault = first_fault(head, row)
        try:
            read(text)
            found = None
        except (UnknownName, TooMany):
            found = None
        except BadText as why:
            found = why.spot
        wanted = None if fault is None else (spots + [len(text)])[fault]
        self.assertEqual(found, wanted, text)
        return None if fault is None else fault == len(row)


class TooGreat(Checks):
    def much(self, what, limit, text, outside=()):
        self.check_error(TooMany, many(what, limit), read_term, text=text, outside=list(outside))
        if not outside:
            self.check_error(TooMany, many(what, limit), read_program, text=text)

    def test_brackets(self):
        self.check([ONE], read_term, text="(" * 40 + "1" + ")" * 40, outside=[])
        self.much("brackets", 40, "(" * 41 + "1" + ")" * 41)
        self.much("brackets", 40, "(" * 1999 + "1" + ")" * 1999)
        self.assertEqual(len(read_term("(1, " * 40 + "1" + ")" * 40, [])), 81)
        self.much("brackets", 40, "(1, " * 41 + "1" + ")" * 41)
        arms = "which 1 (x. x) (x. "
        self.assertEqual(len(read_term(arms * 40 + "x" + ")" * 40, [])), 121)
        self.much("brackets", 40, arms * 41 + "x" + ")" * 41)
        self.assertEqual(len(read_term("(" * 39 + "left[a] 1" + ")" * 39, [])), 2)
        self.assertEqual(len(read_term("(" * 38 + "left[(a)] 1" + ")" * 38, [])), 2)
        self.much("brackets", 40, "(" * 40 + "left[a] 1" + ")" * 40)
        self.much("brackets", 40, "(" * 39 + "left[(a)] 1" + ")" * 39)
        self.much("brackets", 40, "fun x : " + "(" * 41 + "a" + ")" * 41 + ". x")
        self.assertEqual(len(read_term("1" + " (left[a] 1)" * 60, [])), 181)
        self.assertEqual(len(read_term("(1) (" * 3 + "1" + ")" * 3 + " ((1))" * 30, [])), 67)

    def test_signs_and_depth(self):
        wide_text = write_kind(wide(59))
        self.check([("fun", wide(59)), ("name", 0)], read_term, text=f"fun x : {wide_text}. x", outside=[])
        self.much("signs", 60, f"fun x : {wide_text} > a. x")
        self.much("signs", 60, f"left[a + ({wide_text})] 1")
        self.much("signs", 60, f"turns 1 (x : ({wide_text}) * b. x) 1")
        self.check([("right", deep(12)), ONE], read_term, text="right[" + "a>" * 11 + "a] 1", outside=[])
        self.much("depth", 12, "right[" + "a>" * 12 + "a] 1")
        self.much("depth", 12, "fun x : " + "a>" * 12 + "a. x")
        self.much("depth", 12, "turns 1 (x : " + "a*" * 12 + "a. x) 1")

    def test_told(self):
        self.check([("told", 1000000)], read_term, text="1000000", outside=[])
        self.check([("told", 1000000)], read_term, text="0" * 3000 + "1000000", outside=[])
        self.check([("told", 0)], read_term, text="0" * 3000, outside=[])
        self.much("told", 1000000, "1000001")
        self.much("told", 1000000, "0001000001")
        self.much("told", 1000000, "9999999")
        self.much("told", 1000000, "(1, 10000000)")
        self.much("told", 1000000, "9" * 3999)
        self.much("told", 1000000, "0" * 300 + "1" + "0" * 3000)

    def test_nodes(self):
        self.assertEqual(len(read_term("1" + " 1" * 149, [])), 299)
        self.assertEqual(len(read_term("next 1" + " 1" * 149, [])), 300)
        self.much("nodes", 300, "1" + " 1" * 150)
        self.assertEqual(len(read_term("fun x : a. " * 299 + "x", [])), 300)
        self.much("nodes", 300, "fun x : a. " * 300 + "x")
        self.much("nodes", 300, "fun x:a." * 499 + "x")
        self.much("nodes", 300, "1" + " 1" * 1999)

    def test_names(self):
        funs = "fun x:a."
        self.check([("fun", A)] * 299 + [("name", 299)], read_term, text=funs * 299 + "y", outside=["y"])
        self.check([("fun", A)] * 299 + [("name", 298)], read_term, text="fun z:a." + funs * 298 + "z", outside=[])
        self.much("names", 299, funs * 299 + "z", ["y", "z"])
        self.check([("fun", A)] * 292 + [("name", 299)], read_term, text=funs * 292 + "h", outside=list("abcdefgh"))
        self.much("names", 299, funs * 293 + "h", "abcdefgh")

    def test_the_sequence(self):
        funs = "fun x:a."
        brackets, names = "(" * 41 + "1" + ")" * 41, funs * 310 + "h"
        signs, depth, told = "left[" + "a>" * 30 + "a]1", "left[" + "a>" * 12 + "a]1", "1000001"
        rows = [("brackets", 40, brackets), ("signs", 60, signs), ("depth", 12, depth), ("told", 1000000, told),
                ("nodes", 300, "1 " + names)]
        for place, (what, limit, text) in enumerate(rows):
            later = [each for _, _, each in rows[place:]]
            for row in (later, later[::-1]):
                self.much(what, limit, self.joined(row), "abcdefgh")
        self.much("nodes", 300, funs * 310 + "h", "abcdefgh")

    def joined(self, texts):
        """One text of all of them, pairs within pairs."""
        text = texts[0].removeprefix("1 ")
        for other in texts[1:]:
            text = f"({text}, {other.removeprefix('1 ')})"
        return text

    def test_behind_bad_text_and_unknown_names(self):
        brackets = "(" * 41 + "1" + ")" * 41
        self.check_error(BadText, {"spot": 83}, read_term, text=brackets + ")", outside=[])
        self.check_error(UnknownName, {"spot": 84}, read_term, text=brackets + " y", outside=[])
        self.check_error(UnknownName, {"spot": 8}, read_term, text="1000001 y", outside=[])
        self.check_error(UnknownName, {"spot": 2400}, read_term, text="fun x:a." * 300 + "y", outside=[])
        self.check_error(BadText, {"spot": 4}, read_term, text="y y $", outside=[])
        self.check_error(UnknownName, {"spot": 34}, read_term, text="left[" + "a>" * 12 + "a] 1 y", outside=[])


class Programs(Checks):
    def unfit(self, spot, text):
        self.check_error(BadKind, {"spot": spot}, read_program, text=text)

    def test_programs(self):
        self.check([("fun", STEP), ("name", 0)], read_program, text="fun f : a > a. f")
        self.check([ONE], read_program, text=" # one\n 1")

    def test_where_nodes_begin(self):
        self.unfit(0, "1 2")
        self.unfit(0, "next (1, 2)")
        self.unfit(0, "first 1")
        self.unfit(0, "second 1")
        self.unfit(6, "(1, ( first 1))")
        self.unfit(4, "(1, which 1 (x. x) (y. y))")
        self.unfit(4, "(1, turns (1, 1) (x : count. x) 0)")
        self.unfit(13, "fun x : a. ( turns 1 (x : count. x) x)")
        self.unfit(0, "next (next 1, 2)")
        wide_text = write_kind(wide(59))
        self.unfit(1, f"(fun x : {wide_text}. x)")
        self.unfit(2, f"( left[{wide_text}] 1)")
        self.unfit(2, f"( right[{wide_text}] 1)")

    def test_where_a_pair_begins(self):
        text = f"fun x : {write_kind(wide(31))}. (("
        self.unfit(len(text) - 1, text + "x, x)) 1")

    def test_where_a_let_is_never_at_fault_itself(self):
        self.unfit(13, "let x = 1 in first x")
        self.unfit(8, "let x = first 1 in x")

    def test_where_a_call_begins(self):
        self.unfit(0, "1 1")
        self.unfit(1, "(1 1)")
        self.unfit(0, "(1) 1")
        self.unfit(0, "((1)) 1")
        self.unfit(1, "((1) 1)")
        self.unfit(2, "((1 1) 1)")
        self.unfit(2, "( ( 1 ) (1, 1) )")
        self.unfit(0, "(fun x : a. x) 1")
        self.unfit(1, "((fun x : a. x) 1)")
        self.unfit(0, "first (1, 2) 3")
        self.unfit(0, "(1, 2) 3")
        self.unfit(0, "left[a] 1 2")
        self.unfit(19, "fun f : a > a > a. f 1 2")
        self.unfit(11, "fun x : a. (fun y : a. y) x x")
        self.unfit(12, "fun x : a. ((fun y : a. y) x x)")
        self.unfit(11, "fun x : a. ((fun y : a. y) x) x")
        self.unfit(6, "next (1 1)")

    def test_the_first_node_that_does_not_fit(self):
        self.unfit(1, "(1 1, 2 2)")
        self.unfit(6, "next (1 1)")
        self.unfit(0, "which 1 (x. 1 1) (y. y)")
        self.unfit(25, "which (left[count] 1) (x.1 1) (y. 2 2)")
        self.unfit(33, "which (left[count] 1) (x. 1) (y. 2 2)")

    def test_all_of_read_term_comes_first(self):
        self.check_error(BadText, {"spot": 4}, read_program, text="1 1 $")
        self.check_error(UnknownName, {"spot": 4}, read_program, text="1 1 y")
        self.check_error(TooMany, many("told", 1000000), read_program, text="1 1000001")
        self.check_error(TooMany, many("nodes", 300), read_program, text="1" + " 1" * 150)
        self.unfit(0, "1" + " 1" * 149)

    def test_invalid(self):
        self.check_invalid(InvalidText, read_program, "text", NO_TEXTS, text=None)


class Invalid(Checks):
    def test_texts(self):
        self.check_invalid(InvalidText, read_term, "text", NO_TEXTS, text=None, outside=[])

    def test_outside(self):
        wrong = [None, True, 0, "", "x", b"", {}, {"x": 1}, {"x"}, [1], [None], [True], [""], [" "], ["x y"], ["X"], ["1"],
                 ["1x"], ["x "], ["x\n"], ["#"], ["fun"], ["count"], ["in"], ["x", "y", "x"], ["x1"], ["x0"], ["y", "x12"],
                 list("abcdefghi"), tuple("abcdefghi"), ["x", ["y"]], [("x",)], ["a.b"], ["("], ["x", 1], ["x007"]]
        self.check_invalid(InvalidOutside, read_term, "outside", wrong, text="1", outside=None)

    def test_right_outsides(self):
        for outside in ([], (), ["x"], ["x", "y"], list("abcdefgh"), ["x1y"], ["xx1"], ["y1"], ["x1x"], ["funs", "let1"]):
            self.check([ONE], read_term, text="1", outside=outside)

    def test_the_first_error_is_told(self):
        self.check_error(InvalidText, {"value": 0}, read_term, text=0, outside=0)
        self.check_error(InvalidOutside, {"value": 0}, read_term, text="$", outside=0)


if __name__ == "__main__":
    unittest.main()
