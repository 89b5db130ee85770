"""selfprint.running: [41] to [45]."""

import random
import unittest

from helper import A, COUNT, ODD, Checks, fun, nexts, plain_worth, random_data_programs, random_programs, turned
from selfprint.checked import program_kind
from selfprint.errors import InvalidProgram, NotData, TooMany
from selfprint.forms import form
from selfprint.reader import read_program
from selfprint.running import call_count, call_row, value_of
from selfprint.worths import data_term

ONE = ("told", 1)
CALLS = {"what": "calls", "limit": 2000}

# Texts of programs of data kinds, their worths, and their call rows.
RUN = [
    ("0", 0, []),
    ("1000000", 1000000, []),
    ("next 0", 1, []),
    ("next 999999", 1000000, []),
    ("next 1000000", 1000000, []),
    ("next (next 1000000)", 1000000, []),
    ("(1, next 1)", ("both", 1, 2), []),
    ("first (1, 2)", 1, []),
    ("second (1, 2)", 2, []),
    ("second (1, first ((2, 3), 4))", ("both", 2, 3), []),
    ("left[count] 4", ("left", 4), []),
    ("right[count] (next 4)", ("right", 5), []),
    ("left[a] 4", None, []),
    # which: the sum, then just one arm, with what is on the side.
    ("which (left[count] 4) (x. next x) (y. 0)", 5, [0]),
    ("which (right[count] 4) (x. 0) (y. next (next y))", 6, [0]),
    ("which (left[count] 4) (x. let y = x in y) (y. let z = y in let w = z in w)", 4, [0, 3]),
    ("which (let x = 1 in right[count] x) (x. 0) (y. let z = y in z)", 1, [1, 0, 6]),
    # let: what, then the body.
    ("let x = 4 in (x, next x)", ("both", 4, 5), [0]),
    ("let x = let y = 1 in next y in let z = x in next z", 3, [1, 0, 5]),
    # turns: how many, then the start, then the steps.
    ("turns 0 (x : count. next x) 4", 4, []),
    ("turns 1 (x : count. next x) 4", 5, [0]),
    ("turns 3 (x : count. next x) 4", 7, [0, 0, 0]),
    ("turns 2 (x : count * count. (second x, next (first x))) (0, 10)", ("both", 1, 11), [0, 0]),
    ("turns (let x = 2 in x) (x : count. let y = x in next y) (let z = 7 in z)", 9, [1, 8, 0, 4, 0, 4]),
    ("let x = 3 in turns x (y : count. turns x (z : count. next z) y) 0", 9, [0] + [2, 4, 4, 4] * 3),
    # call: the function, the argument, then the body.
    ("(fun x : count. next x) 4", 5, [1]),
    ("(fun x : count. next x) (let y = 4 in y)", 5, [4, 1]),
    ("(let f = fun x : count. next x in f) (let y = 4 in y)", 5, [1, 6, 2]),
    ("(fun x : count. fun y : count. (x, y)) 1 2", ("both", 1, 2), [2, 3]),
    ("(fun f : count > count. f (f 1)) (fun x : count. next x)", 3, [1, 7, 7]),
    ("let x = 1 in let f = fun y : count. (x, y) in let x = 2 in f x", ("both", 1, 2), [0, 2, 7, 3]),
    # Nothing of a fun is run where it stands.
    ("let f = fun x : count. let y = x in y in 5", 5, [0]),
    ("(fun f : (a > a) > count. f (fun x : a. x)) (fun g : a > a. 6)", 6, [1, 6]),
]


class Worths(Checks):
    def test_each_node(self):
        for text, worth, row in RUN:
            program = read_program(text)
            self.check(row, call_row, program=program)
            self.check(row, call_row, program=tuple(program))
            self.check(len(row), call_count, program=program)
            self.check(len(row), call_count, program=tuple(program))
            if worth is not None:
                self.check(worth, value_of, program=program)
                self.check(worth, value_of, program=tuple(program))

    def test_funs_called_within_funs(self):
        text = "fun f : count > count. fun n : count. turns n (x : count. f (f x)) n"
        program = read_program(f"({text}) (({text}) (fun x : count. next x)) 1")
        self.assertEqual(value_of(program), plain_worth(program)[0])
        self.check(plain_worth(program)[1], call_row, program=program)

    def test_as_it_is_told(self):
        rng = random.Random(43)
        met, many = 0, 0
        for program in random_programs(rng, 150, 3, 80) + random_data_programs(rng, 150, 4, 80):
            worth, row = plain_worth(program)
            self.assertEqual(call_row(program), row)
            self.assertEqual(call_count(program), len(row))
            many += len(row)
        for program in random_data_programs(rng, 200, 4, 120):
            worth, row = plain_worth(program)
            self.assertEqual(value_of(program), worth)
            try:
                wanted = form(program)
            except TooMany:
                continue
            met += 1
            self.assertEqual(wanted, data_term(program_kind(program), worth))
        self.assertGreater(met, 100)
        self.assertGreater(many, 300)

    def test_deep_terms(self):
        self.check(299, value_of, program=nexts(300))
        program = [("let",), ("told", 0)] * 149 + [("next",), ("name", 148)]
        self.check(1, value_of, program=program)
        self.check(list(range(0, 298, 2)), call_row, program=program)

    def test_deep_calls(self):
        # Each turn makes a function that calls the one ahead.
        text = "(turns 990 (f : count > count. fun x : count. next (f x)) (fun x : count. x)) 5"
        program = read_program(text)
        self.check(995, value_of, program=program)
        self.check(990 + 991, call_count, program=program)


class Limits(Checks):
    def test_two_thousand_calls(self):
        for calls in (0, 1, 1999, 2000):
            self.check(calls, value_of, program=turned(calls))
            self.check(calls, call_count, program=turned(calls))
            self.check([0] * calls, call_row, program=turned(calls))
        for calls in (2001, 1000000):
            for function in (value_of, call_row, call_count):
                self.check_error(TooMany, CALLS, function, program=turned(calls))

    def test_calls_of_each_sort_are_counted(self):
        for text, own in (("let x = 0 in turns {} (y : count. next y) x", 1),
                          ("which (left[a] 0) (x. turns {} (y : count. next y) x) (x. 0)", 1),
                          ("(fun x : count. turns {} (y : count. next y) x) 0", 1),
                          ("let x = turns {} (y : count. next y) 0 in x", 1),
                          ("(fun x : count. x) (turns {} (y : count. next y) 0)", 1)):
            self.check(2000 - own, value_of, program=read_program(text.format(2000 - own)))
            self.check_error(TooMany, CALLS, value_of, program=read_program(text.format(2001 - own)))
            self.check_error(TooMany, CALLS, call_row, program=read_program(text.format(2001 - own)))

    def test_what_is_not_run_has_no_calls(self):
        for text in ("fun x : count. turns 2001 (y : count. y) x", "which (left[a] 1) (x. x) (y. turns 2001 (z : count. z) 0)"):
            self.assertIn(call_count(read_program(text)), (0, 1))


class Errors(Checks):
    def test_programs(self):
        wrong = ODD + [[("name", 0)], [("first",), ONE], nexts(301), [("next",), ("fun", A), ("name", 0)]]
        for function in (value_of, call_row, call_count):
            self.check_invalid(InvalidProgram, function, "program", wrong, program=None)

    def test_not_data(self):
        for text in ("fun x : a. x", "fun x : count. x", "(1, fun x : a. x)", "left[a] 1", "right[a > a] 1", "left[count * b] 1"):
            self.check_error(NotData, {}, value_of, program=read_program(text))
            self.check([], call_row, program=read_program(text))
            self.check(0, call_count, program=read_program(text))

    def test_not_data_ahead_of_calls(self):
        program = turned(2001)
        self.check_error(NotData, {}, value_of, program=[("left", A)] + program)
        self.check_error(TooMany, CALLS, call_count, program=[("left", A)] + program)
        self.check_error(TooMany, CALLS, call_row, program=[("left", fun(COUNT, A))] + program)


if __name__ == "__main__":
    unittest.main()
