"""selfprint.forms: [33] to [36], and [4]: one form."""

import random
import unittest

from helper import A, COUNT, ODD, Checks, fun, nexts, random_programs
from selfprint.checked import program_kind
from selfprint.errors import InvalidProgram, TooMany
from selfprint.forms import are_alike, form, is_steps, steps_of
from selfprint.reader import read_program
from selfprint.steps import first_steps, is_plain, stepped

ONE = ("told", 1)
STEPS = {"what": "steps", "limit": 200}
NODES = {"what": "nodes", "limit": 300}

# Programs with detours of each rule, and their forms.
FORMS = [
    ("5", "5"),
    ("next 4", "5"),
    ("next (next 999999)", "1000000"),
    ("fun x : a. x", "fun x : a. x"),
    ("(fun x : count. (x, next x)) 4", "(4, 5)"),
    ("first (1, 2)", "1"),
    ("second ((1, 2), (3, 4))", "(3, 4)"),
    ("which (left[a] 3) (x. next x) (y. 0)", "4"),
    ("which (right[a] 3) (x. (0, 0)) (y. (y, y))", "(3, 3)"),
    ("turns 3 (x : count. next x) 4", "7"),
    ("turns 0 (x : count. next x) 4", "4"),
    ("turns (next 1) (x : count * count. (second x, next (first x))) (0, 10)", "(1, 11)"),
    ("let x = next 1 in (x, x)", "(2, 2)"),
    ("left[a > a] (next 0)", "left[a > a] 1"),
    ("fun f : a > a. f", "fun f : a > a. fun x : a. f x"),
    ("fun p : a * b. p", "fun p : a * b. (first p, second p)"),
    ("fun f : (a > a) * b. f", "fun f : (a > a) * b. (fun x : a. first f x, second f)"),
    ("fun g : (a > a) > b. fun f : a > a. g f", "fun g : (a > a) > b. fun f : a > a. g (fun x : a. f x)"),
    ("fun f : a > a. fun x : a. let g = (f, fun y : a. y) in first g ((second g) x)",
     "fun f : a > a. fun x : a. f x"),
    ("fun f : a > a. fun x : a. turns 3 (y : a. f y) x", "fun f : a > a. fun x : a. f (f (f x))"),
    # Plain, and of a kind that is not shown.
    ("fun n : count. turns n (x : count. next x) 0", "fun n : count. turns n (x : count. next x) 0"),
    ("fun s : a + b. which s (x. left[b] x) (y. right[a] y)", "fun s : a + b. which s (x. left[b] x) (y. right[a] y)"),
    ("fun s : a + b. fun f : a > a. which s (x. f) (y. fun z : a. z)",
     "fun s : a + b. fun f : a > a. fun w : a. (which s (x. fun v : a. f v) (y. fun z : a. z)) w"),
]


def steps_wanted(many):
    """A program of count that wants just so many steps; it comes to many // 2."""
    # Each turn wants a step, the last one as well, and each next it leaves wants one.
    turns = (many - 1) // 2
    term = [("turns", COUNT), ("told", turns), ("next",), ("name", 0), ("told", 0)]
    return term if many % 2 else [("next",)] + term


def often(many):
    """A plain program of so many nodes, an odd number: a function that is called as often as this makes it."""
    return [("fun", fun(A, A)), ("fun", A)] + [("call",), ("name", 1)] * ((many - 3) // 2) + [("name", 0)]


def great_let(size):
    """A let that puts something of so many nodes in twice: it has size + 4 nodes, and becomes 2 * size + 1."""
    return [("let",)] + often(size) + [("both",), ("name", 0), ("name", 0)]


class Forms(Checks):
    def test_each_rule(self):
        for text, wanted in FORMS:
            program = read_program(text)
            self.check(read_program(wanted), form, program=program)
            self.check(read_program(wanted), form, program=tuple(program))
            self.check(True, is_plain, program=form(program))
            self.check([], steps_of, program=form(program))

    def test_rows_of_steps_lead_there(self):
        for text, wanted in FORMS:
            program, other = read_program(text), read_program(wanted)
            row = steps_of(program)
            self.assertIs(type(row), list)
            self.check(True, is_steps, program=program, other=other, value=row)
            self.check(row == [], is_steps, program=program, other=other, value=[])
            self.check(steps_of(program), steps_of, program=tuple(program))

    def test_any_steps_lead_to_the_form(self):
        rng = random.Random(31)
        compared = 0
        for program in random_programs(rng, 80, 2, 30):
            try:
                wanted = form(program)
            except TooMany:
                continue
            self.assertEqual(program_kind(wanted), program_kind(program))
            now, row = program, []
            while not is_plain(now) and len(now) < 150 and len(row) < 100:
                row.append(rng.choice(first_steps(now)))
                now = stepped(now, *row[-1])
            if is_plain(now):
                compared += 1
                self.assertEqual(now, wanted)
                self.assertTrue(is_steps(program, wanted, row))
                self.assertTrue(are_alike(program, wanted))
        self.assertGreater(compared, 50)

    def test_by_least_first_steps(self):
        rng = random.Random(32)
        for program in random_programs(rng, 60, 3, 60):
            now, row, error = program, [], None
            while first_steps(now) and error is None:
                try:
                    row.append(min(first_steps(now)))
                    now = stepped(now, *row[-1])
                except TooMany as why:
                    error = NODES if (why.what, why.limit) == ("nodes", 300) else None
                if error is None and len(row) == 200 and first_steps(now):
                    error = STEPS
            if error is None:
                self.assertEqual(form(program), now)
                self.assertTrue(is_steps(program, now, steps_of(program)))
            else:
                self.check_error(TooMany, error, form, program=program)
                self.check_error(TooMany, error, steps_of, program=program)
                self.check_error(TooMany, error, are_alike, program=program, other=program)


class Limits(Checks):
    def test_just_so_many_steps(self):
        for many in (1, 2, 7, 199, 200):
            program = steps_wanted(many)
            self.check([("told", many // 2)], form, program=program)
            self.assertEqual(len(steps_of(program)), many)
        for many in (201, 202, 250):
            program = steps_wanted(many)
            self.check_error(TooMany, STEPS, form, program=program)
            self.check_error(TooMany, STEPS, steps_of, program=program)
            self.check_error(TooMany, STEPS, are_alike, program=program, other=[ONE])
            self.check_error(TooMany, STEPS, are_alike, program=[ONE], other=program)

    def test_endless_turns(self):
        program = read_program("turns 1000000 (x : count. 7) 0")
        self.check([("told", 7)], form, program=program)
        self.check_error(TooMany, STEPS, form, program=read_program("turns 1000000 (x : count. x) 0"))

    def test_the_least_step_is_made_first(self):
        # Where it is put in ahead of its own steps, these are to be made at each place.
        turns = "turns 40 (x : count. next x) 0"
        self.check_error(TooMany, STEPS, form, program=read_program(f"let x = {turns} in (x, (x, x))"))
        self.check(read_program("(40, 40)"), form, program=read_program(f"let x = {turns} in (x, x)"))
        # And what is dropped at once wants none.
        self.check([ONE], form, program=read_program(f"first (1, ({turns}, ({turns}, {turns})))"))
        self.assertEqual(steps_of(read_program("first (next 1, next 2)")), [(0, "first"), (0, "next")])

    def test_nodes(self):
        for around in (0, 1):
            program = [("left", A)] * around + great_let(149)
            self.assertEqual(form(program)[around:], [("both",)] + often(149) + often(149))
            self.assertEqual(steps_of(program), [(around, "let")])
        for around, size in ((2, 149), (0, 151)):
            program = [("left", A)] * around + great_let(size)
            self.check_error(TooMany, NODES, form, program=program)
            self.check_error(TooMany, NODES, steps_of, program=program)
            self.check_error(TooMany, NODES, are_alike, program=program, other=program)

    def test_nodes_that_a_step_makes_on_the_way(self):
        inner = great_let(151)
        self.check([ONE], form, program=[("second",), ("both",)] + inner + [ONE])
        program = [("let",)] + inner + [ONE]
        self.check([ONE], form, program=program)
        self.check_error(TooMany, NODES, form, program=[("both",)] + inner + [ONE])

    def test_which_limit_is_met_first(self):
        for many, told in ((198, NODES), (199, NODES), (200, STEPS), (201, STEPS)):
            program = [("both",)] + steps_wanted(many) + great_let(151)
            self.check_error(TooMany, told, form, program=program)
            self.check_error(TooMany, told, steps_of, program=program)
        # The two hundredth step may make all plain.
        program = [("both",)] + steps_wanted(199) + great_let(147)
        self.assertEqual(len(form(program)), 297)
        program = [("both",)] + steps_wanted(200) + great_let(147)
        self.check_error(TooMany, STEPS, form, program=program)


class IsSteps(Checks):
    def setUp(self):
        self.program = read_program("fun f : a > a. fun x : a. let g = (f, fun y : a. y) in first g ((second g) x)")
        self.row = steps_of(self.program)
        self.form = form(self.program)

    def is_row(self, wanted, value):
        self.check(wanted, is_steps, program=self.program, other=self.form, value=value)

    def test_right_rows(self):
        self.is_row(True, self.row)
        self.is_row(True, tuple(self.row))
        self.check(True, is_steps, program=tuple(self.program), other=tuple(self.form), value=self.row)
        self.check(True, is_steps, program=self.form, other=self.form, value=[])
        self.check(True, is_steps, program=self.form, other=self.form, value=())
        self.check(True, is_steps, program=self.program, other=self.program, value=[])

    def test_rows_that_end_on_the_way(self):
        now = self.program
        for many, step in enumerate(self.row):
            self.check(True, is_steps, program=self.program, other=now, value=self.row[:many])
            self.is_row(False, self.row[:many])
            now = stepped(now, *step)

    def test_a_step_left_out_put_in_or_changed(self):
        for place, (position, rule) in enumerate(self.row):
            ahead, behind = self.row[:place], self.row[place + 1:]
            self.is_row(False, ahead + behind)
            self.is_row(False, ahead + [(position, rule)] * 2 + behind)
            for other in ((position + 1, rule), (position, "next"), (300, rule), (10 ** 30, rule), (-1, rule)):
                self.is_row(False, ahead + [other] + behind)
        self.is_row(False, self.row + [(0, "let")])

    def test_other_rows_lead_there_as_well(self):
        program = read_program("(next 1, next 2)")
        for row in ([(1, "next"), (2, "next")], [(3, "next"), (1, "next")]):
            self.check(True, is_steps, program=program, other=read_program("(2, 3)"), value=row)
        self.check(False, is_steps, program=program, other=read_program("(2, 3)"), value=[(1, "next"), (3, "next")])

    def test_tuples_and_lists(self):
        self.is_row(False, [list(step) for step in self.row])
        self.is_row(False, [self.row])
        self.is_row(False, self.row[0])
        self.is_row(False, self.row[:-1] + [list(self.row[-1])])
        for step in ((), (0,), (0, "let", 0), ("let", 0), (0, ("let",)), (0, ["let"]), ([0], "let")):
            self.is_row(False, [step])
            self.is_row(False, [step] + self.row[1:])

    def test_true_is_not_one(self):
        program, other = [("next",), ("next",), ONE], [("next",), ("told", 2)]
        self.check(True, is_steps, program=program, other=other, value=[(1, "next")])
        self.check(False, is_steps, program=program, other=other, value=[(True, "next")])
        self.check(True, is_steps, program=program[1:], other=[("told", 2)], value=[(0, "next")])
        self.check(False, is_steps, program=program[1:], other=[("told", 2)], value=[(False, "next")])

    def test_values_of_all_kinds(self):
        for value in ODD:
            self.is_row(False, value)
            if type(value) is not object:
                self.is_row(False, [value])
                self.is_row(False, [(0, value)])
                self.is_row(False, [(value, "let")])

    def test_a_limit_that_stops_a_step(self):
        program = [("second",), ("both",)] + great_let(151) + [ONE]
        self.check(True, is_steps, program=program, other=[ONE], value=[(0, "second")])
        self.check(False, is_steps, program=program, other=[ONE], value=[(2, "let"), (0, "second")])
        self.assertIn((2, "let"), first_steps(program))
        self.check(False, is_steps, program=great_let(151), other=[ONE], value=[(0, "let")])

    def test_rows_of_more_than_two_hundred_steps(self):
        program = steps_wanted(251)
        row = [(place, "turns") for place in range(126)]
        row += [(124 - place, "next") for place in range(125)]
        self.check(True, is_steps, program=program, other=[("told", 125)], value=row)
        self.check(False, is_steps, program=program, other=[("told", 125)], value=row[:-1])

    def test_the_other_program_has_another_kind(self):
        self.check(False, is_steps, program=[ONE], other=read_program("fun x : a. x"), value=[])


class AreAlike(Checks):
    def test_alike(self):
        texts = ["7", "next 6", "turns 7 (x : count. next x) 0", "let x = 7 in x", "first (7, fun x : a. x)"]
        for one in texts:
            for two in texts:
                self.check(True, are_alike, program=read_program(one), other=read_program(two))
            for two in ("8", "next 7", "turns 7 (x : count. next x) 1"):
                self.check(False, are_alike, program=read_program(one), other=read_program(two))

    def test_of_kinds_that_are_not_shown(self):
        one, two = "fun n : count. fun f : a > a. f", "fun n : count. fun f : a > a. fun x : a. f x"
        self.check(True, are_alike, program=read_program(one), other=read_program(two))
        self.check(False, are_alike, program=read_program("fun n : count. n"), other=read_program("fun n : count. next n"))

    def test_unlike_kinds_ahead_of_all_steps(self):
        texts = ["1", "fun x : a. x", "fun x : b. x", "(1, 1)", "left[a] 1", "left[b] 1", "right[a] 1"]
        for one in texts:
            for two in texts:
                self.check(one == two, are_alike, program=read_program(one), other=read_program(two))
        endless = read_program("turns 1000000 (x : count. x) 0")
        great = [("both",)] + great_let(151) + [ONE]
        for program in (endless, great):
            self.check(False, are_alike, program=program, other=read_program("fun x : a. x"))
            self.check(False, are_alike, program=read_program("fun x : a. x"), other=program)

    def test_the_first_limit_is_told(self):
        great = great_let(151)
        endless = [("turns", program_kind(great)), ("told", 1000), ("name", 0), ("both",)] + often(3) + often(3)
        self.assertEqual(program_kind(endless), program_kind(great))
        self.check_error(TooMany, NODES, are_alike, program=great, other=endless)
        self.check_error(TooMany, STEPS, are_alike, program=endless, other=great)


class Errors(Checks):
    def test_programs(self):
        wrong = ODD + [[("name", 0)], [("first",), ONE], nexts(301), [("next",), ("fun", A), ("name", 0)]]
        self.check_invalid(InvalidProgram, form, "program", wrong, program=None)
        self.check_invalid(InvalidProgram, steps_of, "program", wrong, program=None)
        for name in ("program", "other"):
            self.check_invalid(InvalidProgram, is_steps, name, wrong, program=[ONE], other=[ONE], value=[])
            self.check_invalid(InvalidProgram, are_alike, name, wrong, program=[ONE], other=[ONE])

    def test_the_first_error_is_told(self):
        self.check_error(InvalidProgram, {"value": 1}, is_steps, program=1, other=2, value=3)
        self.check_error(InvalidProgram, {"value": 2}, is_steps, program=[ONE], other=2, value=3)
        self.check_error(InvalidProgram, {"value": 1}, are_alike, program=1, other=2)
        self.check_error(InvalidProgram, {"value": 2}, are_alike, program=steps_wanted(250), other=2)


if __name__ == "__main__":
    unittest.main()
