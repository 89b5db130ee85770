"""selfprint.machine: [41] to [45], little by little."""

import random
import unittest

from helper import A, COUNT, ODD, Checks, nexts, plain_worth, random_data_programs, random_programs, same, turned
from selfprint.errors import InvalidMany, InvalidProgram, NotData, NotDone, TooMany
from selfprint.machine import Run
from selfprint.reader import read_program
from selfprint.running import call_count, value_of

CALLS = {"what": "calls", "limit": 2000}
NO_MANIES = [value for value in ODD if isinstance(value, bool) or not isinstance(value, int)] + [-1, -2000, 2001, 10 ** 30]


class RunChecks(Checks):
    def stands(self, run, calls, is_done):
        """The run stands so, whenever it is asked."""
        for _ in range(2):
            self.assertTrue(same(run.calls, calls), run.calls)
            self.assertIs(run.is_done, is_done)

    def go(self, run, many, wanted, calls):
        """It goes on, is done then or not, and has begun so many calls."""
        self.assertIs(run.go(many), wanted)
        self.stands(run, calls, wanted)

    def fails(self, wanted, attributes, action, *told, **named):
        with self.assertRaises(wanted) as caught:
            action(*told, **named)
        self.assertIs(type(caught.exception), wanted)
        self.assertEqual(set(vars(caught.exception)), set(attributes))
        for name, value in attributes.items():
            self.assertTrue(same(getattr(caught.exception, name), value))


class Runs(RunChecks):
    def test_methods_stand_in_the_class_itself(self):
        for name in ("go", "value", "calls", "is_done", "__init__"):
            self.assertIn(name, vars(Run))
        self.assertIsInstance(vars(Run)["calls"], property)
        self.assertIsInstance(vars(Run)["is_done"], property)

    def test_ahead_of_the_first_go(self):
        for text in ("5", "let x = 1 in x", "fun x : a. x"):
            run = Run(read_program(text))
            self.stands(run, 0, False)
            self.fails(NotDone, {}, run.value)
            self.stands(run, 0, False)

    def test_without_calls(self):
        run = Run([("next",), ("told", 4)])
        self.go(run, 0, True, 0)
        self.assertEqual(run.value(), 5)
        run = Run([("fun", A), ("name", 0)])
        self.go(run, many=0, wanted=True, calls=0)
        self.fails(NotData, {}, run.value)

    def test_in_pieces(self):
        run = Run(turned(7))
        for many, wanted, calls in ((0, False, 0), (1, False, 1), (0, False, 1), (3, False, 4), (2, False, 6), (0, False, 6),
                                    (1, True, 7), (0, True, 7), (5, True, 7), (2000, True, 7)):
            self.go(run, many, wanted, calls)
            if wanted:
                self.assertEqual(run.value(), 7)
            else:
                self.fails(NotDone, {}, run.value)
                self.stands(run, calls, False)

    def test_just_as_far_as_it_can(self):
        # Behind the last call all is done at once, whatever is left to do.
        run = Run([("let",), ("told", 1)] + nexts(200, ("name", 0)))
        self.go(run, 0, False, 0)
        self.go(run, 1, True, 1)
        self.assertEqual(run.value(), 200)

    def test_more_than_is_wanted(self):
        for many in (7, 8, 2000):
            run = Run(turned(7))
            self.go(run, many, True, 7)
            self.assertEqual(run.value(), 7)

    def test_by_name(self):
        run = Run(program=turned(3))
        self.assertIs(run.go(many=2), False)
        self.assertIs(run.go(many=1), True)

    def test_values(self):
        for text, worth in (("(1, next 1)", ("both", 1, 2)), ("left[count] (let x = 1 in x)", ("left", 1)),
                            ("right[count * count] 0", ("right", 0)), ("turns 3 (x : count. next x) 0", 3)):
            run = Run(read_program(text))
            run.go(2000)
            for _ in range(2):
                self.assertTrue(same(run.value(), worth))

    def test_not_data(self):
        for text in ("fun x : a. x", "(1, fun x : a. x)", "left[a] 1", "let x = 1 in fun y : a. y"):
            run = Run(read_program(text))
            self.fails(NotDone, {}, run.value)
            self.assertIs(run.go(1), True)
            self.fails(NotData, {}, run.value)
            self.assertIs(run.is_done, True)

    def test_not_done_is_told_ahead_of_not_data(self):
        run = Run(read_program("let x = 1 in fun y : a. y"))
        run.go(0)
        self.fails(NotDone, {}, run.value)

    def test_random_pieces(self):
        rng = random.Random(51)
        for program in random_data_programs(rng, 80, 4, 100):
            run, total = Run(program), call_count(program)
            calls = 0
            while not run.is_done:
                many = rng.randrange(4)
                wanted = min(total, calls + many)
                done = run.go(many)
                # It is done exactly if no call is left, as soon as it went on.
                self.assertIs(done, wanted == total)
                calls = wanted
                self.stands(run, calls, done)
            self.assertEqual(run.value(), value_of(program))
            self.assertEqual(run.value(), plain_worth(program)[0])

    def test_programs_of_all_kinds(self):
        rng = random.Random(52)
        for program in random_programs(rng, 40, 3, 60):
            run = Run(tuple(program))
            self.assertIs(run.go(2000), True)
            self.assertEqual(run.calls, call_count(program))


class Many(RunChecks):
    def test_invalid(self):
        run = Run(turned(7))
        for calls, done in ((0, False), (4, False), (7, True)):
            run.go(calls - run.calls)
            for many in NO_MANIES:
                self.fails(InvalidMany, {"value": many}, run.go, many)
                self.fails(InvalidMany, {"value": many}, run.go, many=many)
                self.stands(run, calls, done)
        self.assertEqual(run.value(), 7)

    def test_two_thousand(self):
        run = Run(turned(2000))
        self.go(run, 2000, True, 2000)
        self.assertEqual(run.value(), 2000)


class Limits(RunChecks):
    def test_the_call_behind_the_last_one(self):
        run = Run(turned(2001))
        self.go(run, 2000, False, 2000)
        self.go(run, 0, False, 2000)
        for many in (1, 2000, 1):
            self.fails(TooMany, CALLS, run.go, many)
            self.stands(run, 2000, False)
            self.fails(NotDone, {}, run.value)
        self.go(run, 0, False, 2000)

    def test_a_limit_changes_nothing(self):
        run = Run(turned(2500))
        self.go(run, 1500, False, 1500)
        for many in (501, 1000, 2000):
            self.fails(TooMany, CALLS, run.go, many)
            self.stands(run, 1500, False)
        self.go(run, 500, False, 2000)
        self.fails(TooMany, CALLS, run.go, 1)
        self.stands(run, 2000, False)

    def test_it_goes_on_as_before_behind_a_limit(self):
        program = read_program("let x = turns 1000000 (y : count. next y) 0 in next x")
        run, other = Run(program), Run(program)
        run.go(1)
        self.fails(TooMany, CALLS, run.go, 2000)
        self.stands(run, 1, False)
        self.go(run, 1999, False, 2000)
        self.go(other, 2000, False, 2000)

    def test_two_thousand_in_pieces(self):
        run = Run(turned(2000))
        for place in range(1, 5):
            self.go(run, 500, place == 4, 500 * place)
        self.go(run, 2000, True, 2000)
        self.assertEqual(run.value(), 2000)


class Apart(RunChecks):
    def test_two_runs_of_one_list_that_is_changed_afterwards(self):
        program = turned(5)
        one, two = Run(program), Run(program)
        program[1] = ("told", 9)
        self.go(one, 3, False, 3)
        self.stands(two, 0, False)
        program.clear()
        program.append("changed")
        self.go(one, 2, True, 5)
        self.stands(two, 0, False)
        self.go(two, 2000, True, 5)
        self.assertEqual([one.value(), two.value()], [5, 5])

    def test_what_is_passed_is_unchanged(self):
        program = turned(5)
        before = list(program)
        run = Run(program)
        run.go(2)
        run.go(2000)
        self.assertEqual(program, before)


class Errors(RunChecks):
    def test_programs(self):
        for value in ODD + [[("name", 0)], [("first",), ("told", 1)], nexts(301), [("next",), ("fun", COUNT), ("name", 0)]]:
            self.fails(InvalidProgram, {"value": value}, Run, value)
            self.fails(InvalidProgram, {"value": value}, Run, program=value)


if __name__ == "__main__":
    unittest.main()
