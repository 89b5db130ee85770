"""selfprint.texts: [91]."""

import random
import unittest

from helper import A, B, COUNT, ODD, Checks, fun, nexts, pair, random_kind, random_programs, shown_programs, sum_of, wide
from selfprint.codetext import code_text
from selfprint.compiler import compiled
from selfprint.errors import InvalidSort, InvalidValue, TooMany
from selfprint.files import read
from selfprint.printer import write_kind, written
from selfprint.reader import read_program
from selfprint.texts import filed, is_of_sort, sorts

WORDS = ["kind", "program", "code", "steps", "test"]
RULES = ["call", "first", "second", "which", "turns", "next", "let", "long"]
TEXT = {"what": "text", "limit": 8000}
SAME = [("fun", A), ("name", 0)]

# Values of each sort and their written forms.
FORMS = [
    ("kind", COUNT, "kind count\n"), ("kind", fun(fun(A, B), A), "kind (a > b) > a\n"), ("kind", sum_of(A, pair(B, COUNT)), "kind a + b * count\n"),
    ("program", [("told", 1000000)], "program 1000000\n"), ("program", SAME, "program fun x0 : a. x0\n"),
    ("program", [("let",), ("left", A), ("told", 1), ("which",), ("name", 0), ("name", 0), ("told", 2)],
     "program let x0 = left[a] 1 in which x0 (x1. x1) (x1. 2)\n"),
    ("code", [([], [], COUNT, [("told", 8)])], "code\nentry 0\ntells count\n  told 8\n"),
    ("code", [([], [], fun(A, A), [("make", 1, [])]), ([], [A], A, [("given",)])],
     "code\nentry 0\ntells a > a\n  make 1\nentry 1\ngiven a\ntells a\n  given\n"),
    ("steps", [], "steps\n"), ("steps", [(0, "next")], "steps\nstep 0 next\n"),
    ("steps", [(place, rule) for place, rule in enumerate(RULES)], "steps\n" + "".join(f"step {place} {rule}\n" for place, rule in enumerate(RULES))),
    ("steps", [(299, "long"), (0, "long"), (10, "let")], "steps\nstep 299 long\nstep 0 long\nstep 10 let\n"),
    ("test", (1, [("told", 3)]), "test 1 3\n"), ("test", (11, SAME), "test 11 fun x0 : a. x0\n"),
    ("test", (10, [("fun", COUNT), ("next",), ("name", 0)]), "test 10 fun x0 : count. next x0\n"),
]

# Values just beyond a sort.
BEYOND = {
    "kind": [["letter", 0], ("letter", 6), ("fun", A), SAME, wide(61), [COUNT], ("letter", True)],
    "program": [[("name", 0)], COUNT, [("told", True)], nexts(301), [], [["told", 3]], "5", (("told", 3), ("told", 3))],
    "code": [[], SAME, [([], [], COUNT, [("told", True)])], [([], [], COUNT, [])], [[[], [], COUNT, [("told", 8)]]], [([], [COUNT], COUNT, [("told", 8)])]],
    "steps": [[(0, "next")] * 201, [(300, "next")], [(-1, "next")], [(True, "next")], [(False, "next")], [(0, "jump")], [[0, "next"]], [(0,)],
              [(0, "next", 1)], [("0", "next")], [(0, None)], [(0, ["next"])], (0, "next"), "steps", [None], {0: "next"}, [(0, "next"), 1],
              [(0, "Next")], [(0, "")], [(10 ** 30, "next")]],
    "test": [(0, SAME), (12, SAME), (True, SAME), [1, SAME], (1, [("name", 0)]), (1,), (1, SAME, SAME), (SAME, 1), SAME, (None, SAME), ("1", SAME),
             (1, COUNT), (-1, SAME), (1, nexts(301))],
}


class Sorts(Checks):
    def test_words(self):
        self.check(WORDS, sorts)

    def test_values_of_each_sort(self):
        for sort, value, _ in FORMS:
            self.check(True, is_of_sort, sort=sort, value=value)
            if isinstance(value, list):
                self.check(True, is_of_sort, sort=sort, value=tuple(value))
            for other in WORDS:
                if other != sort and value != []:
                    self.check(False, is_of_sort, sort=other, value=value)
        self.check(True, is_of_sort, sort="steps", value=[(0, "next")] * 200)
        self.check(True, is_of_sort, sort="steps", value=((299, "long"),))
        self.check(True, is_of_sort, sort="test", value=(1, tuple(SAME)))
        self.check(True, is_of_sort, sort="kind", value=wide(59))

    def test_values_beyond(self):
        for sort, values in BEYOND.items():
            for value in values:
                self.check(False, is_of_sort, sort=sort, value=value)
            self.check_invalid(InvalidValue, filed, "value", values, sort=sort, value=None)

    def test_any_value(self):
        for value in ODD:
            self.check(value == COUNT, is_of_sort, sort="kind", value=value)
            self.check(False, is_of_sort, sort="program", value=value)
            self.check(False, is_of_sort, sort="code", value=value)
            self.check(value in ([], ()), is_of_sort, sort="steps", value=value)
            self.check(False, is_of_sort, sort="test", value=value)

    def test_wrong_sorts(self):
        wrong = [value for value in ODD if value not in WORDS] + ["kinds", "Kind", "kind ", "", "worth", ["kind"], ("kind",)]
        for function in (is_of_sort, filed):
            self.check_invalid(InvalidSort, function, "sort", [value for value in wrong if value != "kind"], sort=None, value=None)
        # Ahead of the value.
        self.check_error(InvalidSort, {"value": "steps "}, filed, sort="steps ", value=[(0, "jump")])
        self.check_error(InvalidValue, {"value": [(0, "jump")]}, filed, sort="steps", value=[(0, "jump")])


class Filed(Checks):
    def test_written_forms(self):
        for sort, value, text in FORMS:
            self.check(text, filed, sort=sort, value=value)
            if isinstance(value, list):
                self.check(text, filed, sort=sort, value=tuple(value))
            self.check((sort, value), read, text=text)
        self.check("test 2 fun x0 : a. x0\n", filed, sort="test", value=(2, tuple(SAME)))
        steps = [(place % 300, RULES[place % 8]) for place in range(200)]
        self.check("steps\n" + "".join(f"step {place} {rule}\n" for place, rule in steps), filed, sort="steps", value=steps)
        self.check(("steps", steps), read, text=filed("steps", steps))

    def test_random_ones(self):
        rng = random.Random(101)
        for _ in range(100):
            kind = random_kind(rng, 5)
            self.assertEqual(filed("kind", kind), f"kind {write_kind(kind)}\n")
            self.assertEqual(read(filed("kind", kind)), ("kind", kind))
        for program in random_programs(rng, 60, 3, 80) + shown_programs(rng, 40, 3, 80):
            self.assertEqual(filed("program", program), f"program {written(program)}\n")
            self.assertEqual(filed("test", (7, program)), f"test 7 {written(program)}\n")
            code = compiled(program)
            self.assertEqual(filed("code", code), f"code\n{code_text(code)}\n")
            for sort, value in (("program", program), ("test", (7, program)), ("code", code)):
                self.assertEqual(read(filed(sort, value)), (sort, value))

    def test_limits(self):
        long_one = lets(99)
        for sort, value in (("program", long_one), ("test", (1, long_one)), ("code", compiled(long_one))):
            self.assertTrue(is_of_sort(sort, value))
            self.check_error(TooMany, TEXT, filed, sort=sort, value=value)
        self.check_error(TooMany, TEXT, written, program=long_one)
        # The text has 8,000 signs at the most, the form some more.
        for many in range(1, 100):
            if len(written_freely(many)) <= 8000 < len(written_freely(many + 1)):
                self.assertEqual(filed("program", lets(many)), f"program {written_freely(many)}\n")
                self.check_error(TooMany, TEXT, filed, sort="program", value=lets(many + 1))
                return
        self.fail("no text is as long as can be")


def lets(many):
    """A program with so many funs of a long kind."""
    return [node for _ in range(many) for node in (("let",), ("fun", wide(55)), ("told", 0))] + [("told", 1)]


def written_freely(many):
    """The text of that program, as [27] has it."""
    return "".join(f"let x{place} = fun x{place} : {write_kind(wide(55))}. 0 in " for place in range(many)) + "1"


class Plain(Checks):
    def test_texts_of_long_programs(self):
        self.assertEqual(written(lets(3)), written_freely(3))
        self.assertEqual(read_program(written_freely(3)), lets(3))


if __name__ == "__main__":
    unittest.main()
