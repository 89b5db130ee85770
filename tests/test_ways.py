"""selfprint.ways: [81] and [82]."""

import itertools
import random
import unittest

from helper import (
    A, ALIKE, COUNT, ODD, PARTINGS, Checks, fun, nexts, plain_parting, random_programs, shown_pairs, tree_of, turned)
from selfprint.checked import program_kind
from selfprint.errors import InvalidProgram, NotShown, TooMany, UnlikeKinds
from selfprint.forms import are_alike
from selfprint.kinds import is_shown
from selfprint.printing import long_programs, printed
from selfprint.reader import read_kind, read_program
from selfprint.ways import first_parting, parted, parting_depth

ALL = (first_parting, parting_depth, parted)
NODES = {"what": "nodes", "limit": 300}
CALLS = {"what": "calls", "limit": 2000}


class Partings(Checks):
    def test_each_sort_of_place(self):
        for one, other, way in PARTINGS:
            one, other = read_program(one), read_program(other)
            depth = sum(step[0] == "argument" for step in way)
            # Turned about it is the same.
            for program, second in ((one, other), (other, one), (tuple(one), tuple(other)), (printed(one), other)):
                self.check(way, first_parting, program=program, other=second)
                self.check(depth, parting_depth, program=program, other=second)
                self.check(True, parted, program=program, other=second)

    def test_two_that_print_alike(self):
        for one, other in ALIKE:
            one, other = read_program(one), read_program(other)
            for program, second in ((one, other), (other, one), (one, one), (one, printed(other))):
                self.check(None, first_parting, program=program, other=second)
                self.check(None, parting_depth, program=program, other=second)
                self.check(False, parted, program=program, other=second)

    def test_all_of_some_kinds(self):
        for text in ("a > a > a", "(a > a) > a > a", "a * (a * a) > a * a", "(a > a) * a > a", "(a > a > a) > a > a",
                     "(a > a * a) > a > a + a", "((a > a) > a) > a", "(a + a > a) > a > a", "((a > a) * a > a) > a > a"):
            kind = read_kind(text)
            found = long_programs(kind, 9)
            rng = random.Random(text)
            pairs = list(itertools.product(found, found))
            for one, other in rng.sample(pairs, min(len(pairs), 150)):
                wanted = plain_parting(tree_of(one), tree_of(other))
                self.assertEqual(first_parting(one, other), wanted)
                self.assertEqual(wanted is None, one == other)
                self.assertEqual(parted(one, other), one != other)

    def test_random_ones(self):
        rng = random.Random(91)
        met = set()
        for one, other in shown_pairs(rng, 150, 3, 100):
            try:
                wanted = plain_parting(tree_of(printed(one)), tree_of(printed(other)))
            except TooMany:
                continue
            self.assertEqual(first_parting(one, other), wanted)
            self.assertEqual(first_parting(other, one), wanted)
            depth = None if wanted is None else [step[0] for step in wanted].count("argument")
            self.assertEqual(parting_depth(one, other), depth)
            met.add(depth)
            try:
                self.assertEqual(are_alike(one, other), not parted(one, other))
            except TooMany:
                continue
        self.assertTrue({None, 0, 1} <= met, met)

    def test_deep_ones(self):
        for many in (1, 10, 100, 147):
            one = [("fun", fun(A, A)), ("fun", A)] + [("call",), ("name", 1)] * many + [("name", 0)]
            other = one[:-1] + [("call",), ("name", 1), ("name", 0)]
            self.check([("fun",)] * 2 + [("argument", 0)] * many, first_parting, program=one, other=other)
            self.check(many, parting_depth, program=one, other=other)


class Errors(Checks):
    def test_programs(self):
        wrong = ODD + [[("name", 0)], nexts(301)]
        for function in ALL:
            self.check_invalid(InvalidProgram, function, "program", wrong, program=None, other=None)
            self.check_invalid(InvalidProgram, function, "other", wrong, program=[("told", 1)], other=None)
            self.check_invalid(InvalidProgram, function, "other", wrong, program=[("fun", COUNT), ("told", 1)], other=None)

    def test_unlike_kinds_then_not_shown(self):
        for function in ALL:
            for one, other in (("5", "fun x : a. x"), ("fun n : count. n", "5"), ("fun n : count. n", "fun n : count. (n, n)"),
                               ("left[a] 1", "left[b] 1"), ("fun x : a. x", "fun x : b. x")):
                self.check_error(UnlikeKinds, {}, function, program=read_program(one), other=read_program(other))
            for text in ("fun n : count. n", "(1, fun s : a + b. 1)", "fun f : count > a. fun n : count. f n"):
                program = read_program(text)
                self.check_error(NotShown, {}, function, program=program, other=program)
            # Ahead of all calls and nodes.
            great = [("let",)] + turned(2001) + [("fun", COUNT), ("told", 1)]
            self.check_error(NotShown, {}, function, program=great, other=great)
            self.check_error(UnlikeKinds, {}, function, program=great, other=turned(3000))

    def test_shown_or_not(self):
        rng = random.Random(92)
        for program in random_programs(rng, 40, 2, 30):
            if is_shown(program_kind(program)):
                self.check(False, parted, program=program, other=program)
            else:
                self.check_error(NotShown, {}, parted, program=program, other=program)

    def test_limits_of_the_one_then_of_the_other(self):
        turning = read_program("fun n : count. fun f : a > a. fun x : a. turns n (y : a. f y) x")

        def often(times):
            return [("call",)] + turning + [("told", times)]

        for function in ALL:
            self.check_error(TooMany, NODES, function, program=often(149), other=often(3000))
            self.check_error(TooMany, CALLS, function, program=often(3000), other=often(149))
            self.check_error(TooMany, NODES, function, program=often(1), other=often(149))
            self.check_error(TooMany, CALLS, function, program=often(1), other=often(3000))
            # Also of one with itself, and ahead of where they part.
            self.check_error(TooMany, CALLS, function, program=often(3000), other=often(3000))
            one, other = [("both",), ("told", 1)] + often(149), [("both",), ("told", 2)] + often(1)
            self.check_error(TooMany, NODES, function, program=one, other=other)
            self.check_error(TooMany, NODES, function, program=other, other=one)
        self.check(1, parting_depth, program=often(148), other=often(1))
        self.check(147, parting_depth, program=often(148), other=often(147))


if __name__ == "__main__":
    unittest.main()
