"""selfprint.parting: [84] and [86], and [4]: alike or parted, never both."""

import random
import unittest

from helper import (
    A, ALIKE, COUNT, ODD, PARTINGS, Checks, fun, in_rows, nexts, pair, plain_worth, shown_pairs, turned, wide)
from selfprint.callers import rows_put, test_of as found_test
from selfprint.checked import program_kind
from selfprint.errors import InvalidCaller, InvalidMany, InvalidProgram, NotShown, TooMany, UnlikeKinds
from selfprint.forms import form, is_steps, steps_of
from selfprint.parting import asked, is_test
from selfprint.reader import read_program

SIGNS = {"what": "signs", "limit": 60}
DEPTH = {"what": "depth", "limit": 12}
CALLS = {"what": "calls", "limit": 2000}
NEAR, FAR = read_program("fun x : a. fun y : a. x"), read_program("fun x : a. fun y : a. y")
CALLER = read_program("fun p : count > count > count. p 0 1")
COUNTED = read_program("fun n : count. n")

# Two programs, how many counts, and callers that are a test of them, or of them turned about, or of none.
RIGHT = [
    ("fun x : a. fun y : a. x", "fun x : a. fun y : a. y", 1, "fun p : count > count > count. p 0 1"),
    ("fun x : a. fun y : a. x", "fun x : a. fun y : a. y", 1, "fun p : count > count > count. turns 1 (n : count. p n 1) 0"),
    ("fun x : a. fun y : a. x", "fun x : a. fun y : a. y", 2,
     "fun p : count * count > count * count > count * count. second (p (7, 0) (9, 1))"),
    ("0", "1", 1, "fun n : count. n"), ("0", "1", 11, "fun n : count. n"), ("4", "3", 5, "fun n : count. first (turns n (p : count * count. (second p, first p)) (0, 1))"),
    ("left[count] 5", "right[count] 5", 1, "fun s : count + count. which s (n. 0) (n. 1)"),
    ("left[count] 0", "right[count] 1", 1, "fun s : count + count. which s (n. n) (n. n)"),
    ("fun p : a * a. first p", "fun p : a * a. second p", 1, "fun c : count * count > count. c (0, 1)"),
    ("fun f : a > a. fun x : a. x", "fun f : a > a. fun x : a. f x", 1, "fun c : (count > count) > count > count. c (fun n : count. next n) 0"),
    # Of other letters the rows are as many.
    ("fun x : b. fun y : b. x", "fun x : b. fun y : b. y", 1, "fun p : count > count > count. p 0 1"),
]
WRONG = [
    ("fun x : a. fun y : a. x", "fun x : a. fun y : a. y", 1, "fun p : count > count > count. p 0 2"),
    ("fun x : a. fun y : a. x", "fun x : a. fun y : a. y", 1, "fun p : count > count > count. p 1 1"),
    ("fun x : a. fun y : a. x", "fun x : a. fun y : a. y", 1, "fun p : count > count > count. 0"),
    # Of another kind.
    ("fun x : a. fun y : a. x", "fun x : a. fun y : a. y", 2, "fun p : count > count > count. p 0 1"),
    ("fun x : a. fun y : a. x", "fun x : a. fun y : a. y", 1, "fun p : a > a > a. 0"),
    ("fun x : a. fun y : a. x", "fun x : a. fun y : a. y", 1, "fun p : count > count > count. (p 0 1, 0)"),
    ("fun x : a. fun y : a. x", "fun x : a. fun y : a. y", 1, "0"),
    ("fun x : a. fun y : a. x", "fun x : a. fun y : a. y", 1, "fun n : count. n"),
    ("0", "1", 1, "fun n : count. next n"), ("0", "1", 1, "fun n : count. 1"), ("5", "6", 1, "fun n : count. n"),
]


class IsTest(Checks):
    def test_right_ones_and_these_turned_about(self):
        for one, other, many, caller in RIGHT:
            one, other, caller = read_program(one), read_program(other), read_program(caller)
            self.check(True, is_test, program=one, other=other, value=(many, caller))
            self.check(True, is_test, program=tuple(one), other=tuple(other), value=(many, tuple(caller)))
            self.check(False, is_test, program=other, other=one, value=(many, caller))
            self.check(False, is_test, program=one, other=one, value=(many, caller))
            self.check(False, is_test, program=other, other=other, value=(many, caller))

    def test_wrong_ones(self):
        for one, other, many, caller in WRONG:
            one, other, caller = read_program(one), read_program(other), read_program(caller)
            self.check(False, is_test, program=one, other=other, value=(many, caller))
            self.check(False, is_test, program=other, other=one, value=(many, caller))

    def test_other_values(self):
        good = (1, CALLER)
        values = ODD + [
            [1, CALLER], (True, CALLER), (0, CALLER), (12, CALLER), (-1, CALLER), (2, CALLER), (None, CALLER), ("1", CALLER), (1,), (1, CALLER, CALLER),
            (CALLER, 1), (1, CALLER[:-1]), (1, CALLER + CALLER), (1, None), (1, [list(node) for node in CALLER]), (1, (1, CALLER)), ((1, CALLER),),
            CALLER, (10 ** 30, CALLER), (11, CALLER), ([1], CALLER), (1, [("name", 0)]), (1, nexts(301)), (1, CALLER[:-1] + [("told", True)]),
            (1, CALLER[:3] + [("name", False), ("told", 0), ("told", 1)])]
        self.check(True, is_test, program=NEAR, other=FAR, value=good)
        for value in values:
            self.check(False, is_test, program=NEAR, other=FAR, value=value)

    def test_programs_that_would_be_too_great(self):
        # The one, the other one, or both are so only inside.
        detour = [("let",), ("fun", wide(31)), ("told", 0)]
        two = read_program("fun p : count * count > count * count > count * count. second (p (7, 0) (9, 1))")
        self.check(True, is_test, program=NEAR, other=FAR, value=(2, two))
        for one, other in ((detour + NEAR, FAR), (NEAR, detour + FAR), (detour + NEAR, detour + FAR)):
            self.check(True, is_test, program=one, other=other, value=(1, CALLER))
            self.check(False, is_test, program=one, other=other, value=(2, two))
        # No kind is that of a caller any more.
        great = [("fun", wide(59 - 4)), ("fun", A), ("name", 0)]
        for value in ((1, CALLER), (2, CALLER), (11, CALLER)):
            self.check(False, is_test, program=great, other=great, value=value)

    def test_calls(self):
        flags = "fun n : count. first (turns n (p : count * count. (second p, first p)) (0, 1))"
        for one, other, is_right in ((1998, 1999, True), (1998, 1, True), (2000, 1, False), (2, 2001, False), (1000000, 999999, False)):
            one, other = [("told", one)], [("told", other)]
            self.check(is_right, is_test, program=one, other=other, value=(1, read_program(flags)))
        # Those of the program itself count, too.
        one = [("let",)] + turned(1998) + [("told", 0)]
        self.check(True, is_test, program=one, other=[("told", 1)], value=(1, COUNTED))
        for one in ([("let",)] + turned(1999) + [("told", 0)], [("let",)] + turned(3000) + [("told", 0)]):
            self.check(False, is_test, program=one, other=[("told", 1)], value=(1, COUNTED))
            self.check(False, is_test, program=[("told", 0)], other=one[:-1] + [("told", 1)], value=(1, COUNTED))

    def test_no_limits_of_what_is_printed(self):
        # Neither prints within the limits, but a caller need not look at it all.
        one, other = [[("both",), ("told", end)] + many_calls(149) for end in (0, 1)]
        kind = program_kind(one)
        caller = [("fun", in_rows(kind, 1)), ("first",), ("name", 0)]
        self.check(True, is_test, program=one, other=other, value=(1, caller))
        self.check_error(TooMany, {"what": "nodes", "limit": 300}, found_test, program=one, other=other)

    def test_many_nodes_together(self):
        # Program and caller have more than 300 nodes, one called at the other.
        caller = [("fun", COUNT)] + nexts(299, ("name", 0))
        self.check(298, asked, program=[("told", 0)], many=1, caller=caller)
        self.check(596, asked, program=nexts(299), many=3, caller=caller)
        one, other = [[("first",), ("both",), ("told", end)] + nexts(297) for end in (0, 1)]
        self.check(True, is_test, program=one, other=other, value=(1, [("fun", COUNT)] + detour_of(297)))


def many_calls(times):
    return [("fun", fun(A, A)), ("fun", A), ("turns", A), ("told", times), ("call",), ("name", 2), ("name", 0), ("name", 0)]


def detour_of(nodes):
    """The nearest name, in a term of so many nodes, an odd number and 5 at least."""
    return [("first",), ("both",), ("name", 0)] + nexts(nodes - 3)


class Asked(Checks):
    def test_what_a_caller_comes_to(self):
        self.check(0, asked, program=NEAR, many=1, caller=CALLER)
        self.check(1, asked, program=FAR, many=1, caller=CALLER)
        self.check(1, asked, program=tuple(FAR), many=1, caller=tuple(CALLER))
        for one, other, many, caller in RIGHT:
            for wanted, program in enumerate((one, other)):
                program, caller_now = read_program(program), read_program(caller)
                self.check(wanted, asked, program=program, many=many, caller=caller_now)
                self.assertEqual(plain_worth([("call",)] + caller_now + rows_put(many, program))[0], wanted)
        for told in (0, 5, 999999, 1000000):
            self.check(min(told + 1, 1000000), asked, program=[("told", told)], many=7, caller=[("fun", COUNT), ("next",), ("name", 0)])

    def test_programs_of_any_kind(self):
        # The kind need not be shown.
        self.check(6, asked, program=COUNTED, many=1, caller=read_program("fun g : count > count. next (g 5)"))
        program = read_program("fun s : a + count. fun x : a. which s (y. y) (n. x)")
        caller = read_program("fun g : (count * count) + count > count * count > count * count. first (g (right[count * count] 3) (8, 9))")
        self.check(8, asked, program=program, many=2, caller=caller)

    def test_manies(self):
        wrong = [value for value in ODD if isinstance(value, bool) or not isinstance(value, int) or not 1 <= value <= 11] + [12]
        self.check_invalid(InvalidMany, asked, "many", wrong, program=NEAR, many=None, caller=None)

    def test_callers(self):
        wrong = ODD + [NEAR, FAR, [("told", 0)], COUNTED, read_program("fun p : a > a > a. 0"), [("name", 0)], nexts(301),
                       read_program("fun p : count > count > count. p"), (1, CALLER), CALLER[:-1] + [("told", True)]]
        self.check_invalid(InvalidCaller, asked, "caller", wrong, program=NEAR, many=1, caller=None)
        self.check_error(InvalidCaller, {"value": CALLER}, asked, program=NEAR, many=2, caller=CALLER)
        # There is no caller where its kind would be too great for one.
        great = [("fun", wide(57)), ("told", 0)]
        self.check_error(InvalidCaller, {"value": COUNTED}, asked, program=great, many=1, caller=COUNTED)
        self.check_error(InvalidCaller, {"value": COUNTED}, asked, program=great, many=11, caller=COUNTED)

    def test_programs(self):
        wrong = ODD + [[("name", 0)], nexts(301)]
        self.check_invalid(InvalidProgram, asked, "program", wrong, program=None, many=0, caller=None)

    def test_limits(self):
        wide_one = [("let",), ("fun", wide(31)), ("told", 0), ("told", 4)]
        deep_one = [("let",), ("fun", in_depth(11)), ("told", 0), ("told", 4)]
        for many in (1, 2):
            for program, told in ((wide_one, SIGNS), (deep_one, DEPTH)):
                if many == 1:
                    self.check(4, asked, program=program, many=many, caller=COUNTED)
                else:
                    self.check_error(TooMany, told, asked, program=program, many=many, caller=COUNTED)
        both = [("let",), ("fun", in_depth(11)), ("told", 0)] + wide_one
        self.check_error(TooMany, SIGNS, asked, program=both, many=2, caller=COUNTED)
        # Calls come behind: one is the caller's own, one the let's.
        great = [("let",)] + turned(3000) + wide_one
        self.check_error(TooMany, SIGNS, asked, program=great, many=2, caller=COUNTED)
        self.check_error(TooMany, CALLS, asked, program=great, many=1, caller=COUNTED)
        self.check(1, asked, program=[("let",)] + turned(1998) + [("told", 1)], many=1, caller=COUNTED)
        self.check_error(TooMany, CALLS, asked, program=[("let",)] + turned(1999) + [("told", 1)], many=1, caller=COUNTED)


def in_depth(many):
    return A if many == 1 else pair(COUNT, in_depth(many - 1))


class AlikeOrParted(Checks):
    def test_never_both(self):
        rng = random.Random(95)
        pairs = [(read_program(one), read_program(other)) for one, other, _ in PARTINGS] + shown_pairs(rng, 120, 2, 60)
        pairs += [(read_program(one), read_program(other)) for one, other in ALIKE]
        met = {True: 0, False: 0}
        for one, other in pairs:
            try:
                test = found_test(one, other)
                are_led = form(one) == form(other)
            except TooMany:
                continue
            self.assertEqual(test is None, are_led)
            met[are_led] += 1
            if are_led:
                self.assertTrue(is_steps(one, form(one), steps_of(one)) and is_steps(other, form(one), steps_of(other)))
            else:
                self.assertTrue(is_test(one, other, test))
        self.assertTrue(min(met.values()) > 10, met)

    def test_no_test_parts_what_steps_lead_together(self):
        rng = random.Random(96)
        for one, other in shown_pairs(rng, 60, 2, 60):
            try:
                test = found_test(one, other)
                others = [(form(one), other), (one, form(other)), (form(one), form(other))]
            except TooMany:
                continue
            if test is None:
                continue
            for program, second in others:
                self.assertTrue(is_test(program, second, test))
            self.assertFalse(is_test(one, form(one), test) or is_test(form(other), other, test))


class Errors(Checks):
    def test_programs(self):
        wrong = ODD + [[("name", 0)], nexts(301)]
        self.check_invalid(InvalidProgram, is_test, "program", wrong, program=None, other=None, value=None)
        self.check_invalid(InvalidProgram, is_test, "other", wrong, program=NEAR, other=None, value=None)

    def test_unlike_kinds_then_not_shown(self):
        for one, other in (("5", "fun x : a. x"), ("fun n : count. n", "5"), ("left[a] 1", "left[b] 1"), ("fun x : a. x", "fun x : b. x")):
            self.check_error(UnlikeKinds, {}, is_test, program=read_program(one), other=read_program(other), value=(1, CALLER))
        for value in ((1, read_program("fun g : count > count. g 0")), None):
            self.check_error(NotShown, {}, is_test, program=COUNTED, other=COUNTED, value=value)


if __name__ == "__main__":
    unittest.main()
