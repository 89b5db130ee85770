"""selfprint.callers: [83] and [85], and [4]: alike or parted."""

import itertools
import random
import unittest

from helper import (
    A, ALIKE, COUNT, ODD, PARTINGS, Checks, deep, fun, in_rows, nexts, pair, plain_row, plain_worth, random_programs, same,
    shown_pairs, signs_and_depth, turned, wide)
from selfprint.callers import row_kind, row_part, rows_put, test_of as found_test
from selfprint.checked import is_program, kinds_at, program_kind
from selfprint.compiler import compiled
from selfprint.errors import InvalidMany, InvalidPlace, InvalidProgram, NotShown, TooMany, UnlikeKinds
from selfprint.kinds import is_kind
from selfprint.orders import run_code
from selfprint.parting import is_test
from selfprint.printing import long_programs, printed
from selfprint.reader import read_kind, read_program
from selfprint.running import value_of
from selfprint.steps import is_plain
from selfprint.ways import parted, parting_depth

AA = fun(A, A)
SIGNS = {"what": "signs", "limit": 60}
DEPTH = {"what": "depth", "limit": 12}
CALLS = {"what": "calls", "limit": 2000}
NODES = {"what": "nodes", "limit": 300}
WRONG_MANY = [value for value in ODD if isinstance(value, bool) or not isinstance(value, int) or not 1 <= value <= 11] + [12, 300]


class Rows(Checks):
    def test_kinds(self):
        for many in range(1, 12):
            self.check(plain_row(many), row_kind, many=many)
            self.assertTrue(is_kind(row_kind(many)))
        self.check(COUNT, row_kind, many=1)
        self.check(pair(COUNT, COUNT), row_kind, many=2)
        self.check(pair(COUNT, pair(COUNT, COUNT)), row_kind, many=3)

    def test_parts(self):
        for many in range(1, 12):
            row = ("told", 100 + many - 1)
            nodes = [row]
            for place in range(many - 2, -1, -1):
                nodes = [("both",), ("told", 100 + place)] + nodes
            for place in range(many):
                program = row_part(many, place)
                self.check(program, row_part, many=many, place=place)
                self.assertEqual(program_kind(program), fun(plain_row(many), COUNT))
                self.assertEqual(value_of([("call",)] + program + nodes), 100 + place)
                self.assertEqual({node[0] for node in program[1:-1]} - {"first", "second"}, set())
                self.assertTrue(all(node[0] == "second" for node in program[2:-1]))
        self.check([("fun", COUNT), ("name", 0)], row_part, many=1, place=0)
        self.check([("fun", row_kind(3)), ("second",), ("second",), ("name", 0)], row_part, many=3, place=2)
        self.check([("fun", row_kind(4)), ("first",), ("second",), ("second",), ("name", 0)], row_part, many=4, place=2)

    def test_wrong_ones(self):
        for function, told in ((row_kind, {}), (row_part, {"place": None}), (rows_put, {"program": None})):
            self.check_invalid(InvalidMany, function, "many", WRONG_MANY, **{"many": None, **told})
        odd = [value for value in ODD if isinstance(value, bool) or not isinstance(value, int) or value < 0]
        for many in (1, 2, 11):
            self.check_invalid(InvalidPlace, row_part, "place", odd + [many, many + 1, 10 ** 30], many=many, place=None)
        self.check_invalid(InvalidProgram, rows_put, "program", ODD + [[("name", 0)], nexts(301)], many=1, program=None)


class Put(Checks):
    def test_each_kind_that_is_told(self):
        for text in ("fun x : a. x", "fun x : a * (b > c). first x", "left[a > b] 1", "right[a + count] (1, 2)", "fun x : f. turns 2 (y : f. y) x",
                     "fun f : d > e. fun x : d. which (left[a] (f x)) (y. y) (z. f x)", "let x = fun y : count. y in x 3", "5"):
            program = read_program(text)
            for many in (1, 2, 3):
                wanted = [in_rows(node, many) for node in program]
                self.check(wanted, rows_put, many=many, program=program)
                self.check(wanted, rows_put, many=many, program=tuple(program))
                self.assertTrue(is_program(wanted))
                self.assertEqual(program_kind(wanted), in_rows(program_kind(program), many))

    def test_random_ones(self):
        rng = random.Random(93)
        for program in random_programs(rng, 80, 3, 100):
            for many in (1, 2, 3, 4, 11):
                sizes = [signs_and_depth(in_rows(kind, many)) for kind in kinds_at([], program)]
                if max(signs for signs, _ in sizes) > 60:
                    self.check_error(TooMany, SIGNS, rows_put, many=many, program=program)
                elif max(depth for _, depth in sizes) > 12:
                    self.check_error(TooMany, DEPTH, rows_put, many=many, program=program)
                else:
                    made = rows_put(many, program)
                    self.assertEqual(made, [in_rows(node, many) for node in program])
                    self.assertTrue(is_program(made))

    def test_signs_ahead_of_depth(self):
        # A kind of one letter, as deep as there is room for, and a wide one of many letters.
        deep_one = [("fun", pair(COUNT, pair(COUNT, pair(COUNT, A)))), ("told", 1)]
        wide_one = [("fun", wide(29)), ("told", 1)]
        self.assertTrue(is_program(rows_put(8, deep_one)))
        self.check_error(TooMany, DEPTH, rows_put, many=9, program=deep_one)
        self.check_error(TooMany, SIGNS, rows_put, many=2, program=[("fun", wide(31)), ("told", 1)])
        for one, other in ((deep_one, wide_one), (wide_one, deep_one)):
            self.check_error(TooMany, SIGNS, rows_put, many=9, program=behind(one, other))

    def test_kinds_that_are_told_nowhere(self):
        # The kind of the pair is too great then, though no node tells it.
        program = [("fun", A)] + [("first",), ("both",), ("name", 0)] + row_of_names(10)
        self.assertEqual(max(signs_and_depth(kind)[0] for kind in kinds_at([], program)), 21)
        self.assertTrue(is_program(rows_put(2, program)))
        self.assertEqual(signs_and_depth(in_rows(wide_pair(11), 3))[0], 65)
        self.check_error(TooMany, SIGNS, rows_put, many=3, program=program)


def wide_pair(many):
    return A if many == 1 else pair(A, wide_pair(many - 1))


def row_of_names(many):
    return [("name", 0)] if many == 1 else [("both",), ("name", 0)] + row_of_names(many - 1)


def behind(one, other):
    """The one program let ahead of the other one."""
    return [("let",)] + one + other


def called_at(caller, program, many):
    return [("call",)] + caller + rows_put(many, program)


class Tests(Checks):
    def check_test(self, one, other):
        """The test that is found tells 0 of the one and 1 of the other one, however it is run."""
        found = found_test(one, other)
        self.assertIs(type(found), tuple)
        many, caller = found
        self.assertTrue(is_program(caller) and isinstance(caller, list))
        self.assertEqual(program_kind(caller), fun(in_rows(program_kind(one), many), COUNT))
        for wanted, program in enumerate((one, other)):
            whole = called_at(caller, program, many)
            worth, calls = plain_worth(whole)
            self.assertEqual(worth, wanted)
            self.assertLessEqual(len(calls), 2000)
            if len(whole) <= 300:
                self.assertEqual(value_of(whole), wanted)
                try:
                    self.assertEqual(run_code(compiled(whole)), wanted)
                except TooMany as why:
                    self.assertIn(why.what, ("signs", "depth"))
        self.assertTrue(is_test(one, other, found))
        self.assertFalse(is_test(other, one, found))
        self.assertFalse(is_test(one, one, found))
        return many

    def test_each_sort_of_place(self):
        heads = set()
        for one, other, way in PARTINGS:
            one, other = read_program(one), read_program(other)
            depth = sum(step[0] == "argument" for step in way)
            if ("told", 1000000) in other:
                self.check_error(TooMany, CALLS, found_test, program=one, other=other)
                continue
            many = self.check_test(one, other)
            self.assertEqual(self.check_test(other, one), many)
            self.assertEqual(self.check_test(tuple(one), tuple(other)), many)
            self.assertIn(many, (max(depth, 1), depth + 1))
            heads.add((many, depth))
            self.assertTrue(same(found_test(program=one, other=other), found_test(one, other)))
        self.assertTrue({(1, 0), (1, 1), (2, 1), (3, 2), (4, 3)} <= heads, heads)

    def test_as_many_as_are_needed(self):
        for depth in range(7):
            one, other = often(depth), often(depth + 1)
            self.assertEqual(parting_depth(one, other), depth)
            self.assertEqual(self.check_test(one, other), depth + 1)
        for depth in range(1, 9):
            one, other = [read_program("fun f : a + count > a. " + "f (left[count] (" * (depth - 1) + f"f (right[a] {end})" + "))" * (depth - 1))
                          for end in (1, 2)]
            self.assertEqual(parting_depth(one, other), depth)
            self.assertEqual(self.check_test(one, other), depth)
        for one, other in (("1", "2"), ("left[a] 1", "left[a] 2"), ("fun x : a. left[a] x", "fun x : a. right[a] x")):
            self.assertEqual(self.check_test(read_program(one), read_program(other)), 1)

    def test_deep_ones(self):
        # The same head again and again, with new names within.
        def nested(levels, name):
            within = "".join(f"f (fun {letter} : a. " for letter in "uvwyz"[:levels])
            return read_program(f"fun f : (a > a) > a. {within}{name}" + ")" * levels)

        for levels in range(2, 5):
            for one, other in itertools.permutations("uvwyz"[:levels], 2):
                self.assertEqual(self.check_test(nested(levels, one), nested(levels, other)), levels + 1)
        self.check_error(TooMany, CALLS, found_test, program=nested(5, "u"), other=nested(5, "z"))
        self.check_error(TooMany, CALLS, found_test, program=nested(5, "z"), other=nested(5, "u"))

    def test_counts(self):
        for one, other in ((0, 1), (1, 0), (7, 1), (1, 7), (0, 12), (60, 0), (61, 1), (420, 0), (0, 840), (1000, 1840), (1998, 1999), (1999, 0),
                           (5, 65), (1680, 0), (0, 1999)):
            self.assertEqual(self.check_test([("told", one)], [("told", other)]), 1)
        for one, other in ((2000, 1), (1, 2000), (1000000, 999999), (720720, 0), (0, 720720), (1000000, 0), (1999, 2000)):
            self.check_error(TooMany, CALLS, found_test, program=[("told", one)], other=[("told", other)])

    def test_all_of_some_kinds(self):
        met = 0
        for text in ("a > a > a", "(a > a) > a > a", "a * (a * a) > a * a", "(a > a) * a > a", "((a > a) > a) > a", "(a > a > a) > a > a",
                     "(a > a * a) > a > a + a", "((a > a) * (a > a)) > a > a", "(((a > a) > a) > a) > a > a", "(a + a > a) > a > a",
                     "((a > a) + a > a) > a > a", "((a > a) * a > a) > a > a", "((a > b > a) > a) > a", "a > a + (a + (a > a))"):
            found = long_programs(read_kind(text), 8)
            rng = random.Random(text)
            pairs = list(itertools.permutations(found, 2))
            for one, other in rng.sample(pairs, min(len(pairs), 60)):
                self.check_test(one, other)
                met += 1
        self.assertGreater(met, 150)

    def test_random_ones(self):
        rng = random.Random(94)
        met = {}
        for one, other in shown_pairs(rng, 200, 3, 80):
            try:
                is_parted = parted(one, other)
            except TooMany:
                continue
            if not is_parted:
                self.assertIsNone(found_test(one, other))
                self.assertEqual(printed(one), printed(other))
                continue
            try:
                self.check_test(one, other)
                met["found"] = met.get("found", 0) + 1
            except TooMany as why:
                met[why.what] = met.get(why.what, 0) + 1
        self.assertGreater(met["found"], 40, met)

    def test_none_of_two_that_print_alike(self):
        for one, other in ALIKE:
            one, other = read_program(one), read_program(other)
            self.check(None, found_test, program=one, other=other)
            self.check(None, found_test, program=other, other=one)
            self.check(None, found_test, program=one, other=one)
        # Also where kinds are as great as kinds can be.
        for program in ([("fun", wide(57)), ("told", 1)], [("fun", deep(11)), ("told", 1)]):
            self.assertTrue(is_program(program))
            self.check(None, found_test, program=[("told", 3)], other=[("told", 3)])


def often(times):
    """A program that calls a name at another one so often."""
    return [("fun", AA), ("fun", A)] + [("call",), ("name", 1)] * times + [("name", 0)]


def chain(end, depth):
    """A program of a kind with a letter four deep: so many arguments down stands a count."""
    inner = "f (right[count] (right[count] (" * (depth - 1) + f"f (left[count + a] {end})" + ")))" * (depth - 1)
    return read_program("fun f : count + (count + a) > a. " + inner)


class Limits(Checks):
    def test_signs_of_rows(self):
        for depth in (7, 8, 11, 12, 30, 60, 147):
            one, other = often(depth), often(depth + 1)
            self.check_error(TooMany, SIGNS, found_test, program=one, other=other)
            self.check_error(TooMany, SIGNS, found_test, program=other, other=one)

    def test_depth_of_rows(self):
        for depth in (1, 6, 7):
            self.assertEqual(found_test(chain(1, depth), chain(2, depth))[0], depth)
        # With eight the caller's kind alone is too deep.
        self.assertTrue(is_program(rows_put(8, chain(1, 8))))
        self.check_error(TooMany, DEPTH, rows_put, many=9, program=chain(1, 8))
        for depth, told in ((8, DEPTH), (9, DEPTH), (10, SIGNS), (11, SIGNS), (12, SIGNS)):
            self.check_error(TooMany, told, found_test, program=chain(1, depth), other=chain(2, depth))

    def test_of_the_program_itself_not_of_its_print(self):
        near, far = read_program("fun f : a > a. fun x : a. f x"), read_program("fun f : a > a. fun x : a. f (f x)")
        self.assertEqual(found_test(near, far)[0], 2)
        # Ahead stands a detour whose kind is too great with rows of two counts.
        wide_one, deep_one = [("fun", wide(31)), ("told", 0)], [("fun", in_depth(11)), ("told", 0)]
        self.check_error(TooMany, SIGNS, rows_put, many=2, program=wide_one)
        self.check_error(TooMany, DEPTH, rows_put, many=2, program=deep_one)
        for detour, told in ((wide_one, SIGNS), (deep_one, DEPTH)):
            self.check_error(TooMany, told, found_test, program=behind(detour, near), other=far)
            self.check_error(TooMany, told, found_test, program=near, other=behind(detour, far))
            self.check_error(TooMany, told, found_test, program=behind(detour, near), other=behind(detour, far))
        # Those of the one ahead of those of the other one.
        self.check_error(TooMany, DEPTH, found_test, program=behind(deep_one, near), other=behind(wide_one, far))
        self.check_error(TooMany, SIGNS, found_test, program=behind(wide_one, near), other=behind(deep_one, far))
        self.check_error(TooMany, SIGNS, found_test, program=behind(deep_one, behind(wide_one, near)), other=far)

    def test_the_callers_own_kind(self):
        # Both programs can be put as rows of one count, but their callers' kind is too great.
        def of_kind(kind, end):
            return [("fun", kind), ("told", end)]

        met = wide(57)
        self.assertTrue(is_program(rows_put(1, of_kind(met, 1))))
        self.check_error(TooMany, SIGNS, found_test, program=of_kind(met, 1), other=of_kind(met, 2))
        self.assertEqual(found_test(of_kind(wide(55), 1), of_kind(wide(55), 2))[0], 1)
        met = met_depth(11)
        self.assertTrue(is_program(rows_put(1, of_kind(met, 1))))
        self.check_error(TooMany, DEPTH, found_test, program=of_kind(met, 1), other=of_kind(met, 2))
        self.assertEqual(found_test(of_kind(met_depth(10), 1), of_kind(met_depth(10), 2))[0], 1)
        # Ahead of all calls, but behind what is printed.
        met = wide(57)
        self.check_error(TooMany, SIGNS, found_test, program=of_kind(met, 5000), other=of_kind(met, 2))
        self.check_error(TooMany, CALLS, found_test, program=[("told", 5000)], other=[("told", 2)])

    def test_limits_of_what_is_printed(self):
        def turning(times):
            return [("fun", AA), ("fun", A), ("turns", A), ("told", times), ("call",), ("name", 2), ("name", 0), ("name", 0)]

        self.check_error(TooMany, NODES, found_test, program=turning(149), other=turning(3000))
        self.check_error(TooMany, CALLS, found_test, program=turning(3000), other=turning(149))
        self.check_error(TooMany, NODES, found_test, program=turning(1), other=turning(149))
        self.check_error(TooMany, CALLS, found_test, program=turning(2001), other=turning(2001))

    def test_calls_of_a_run(self):
        # The print makes few calls, but each turn of a count makes one.
        for one, other in ((1500, 1501), (1998, 1), (3, 1999)):
            self.assertEqual(found_test([("told", one)], [("told", other)])[0], 1)
        for calls in (0, 100):
            program = [("let",)] + turned(calls) + [("told", 1998 - calls)] if calls else [("told", 1999)]
            self.assertEqual(found_test(program, [("told", 3)])[0], 1)
            self.assertEqual(found_test([("told", 3)], program)[0], 1)
        # 100 turns, the let and the caller's own are 102, so 1,898 are left.
        program = [("let",)] + turned(100) + [("told", 1898)]
        self.assertEqual(found_test(program, [("told", 3)])[0], 1)
        program = [("let",)] + turned(100) + [("told", 1899)]
        self.check_error(TooMany, CALLS, found_test, program=program, other=[("told", 3)])
        self.check_error(TooMany, CALLS, found_test, program=[("told", 3)], other=program)


def met_depth(many):
    """A met kind so many deep."""
    return A if many == 1 else pair(met_depth(many - 1), A)


def in_depth(many):
    """A kind so many deep, with one letter, at its bottom."""
    return A if many == 1 else pair(COUNT, in_depth(many - 1))


class Errors(Checks):
    def test_programs(self):
        wrong = ODD + [[("name", 0)], nexts(301)]
        self.check_invalid(InvalidProgram, found_test, "program", wrong, program=None, other=None)
        self.check_invalid(InvalidProgram, found_test, "other", wrong, program=[("told", 1)], other=None)

    def test_unlike_kinds_then_not_shown(self):
        for one, other in (("5", "fun x : a. x"), ("fun n : count. n", "5"), ("left[a] 1", "left[b] 1")):
            self.check_error(UnlikeKinds, {}, found_test, program=read_program(one), other=read_program(other))
        program = read_program("fun n : count. n")
        self.check_error(NotShown, {}, found_test, program=program, other=program)
        great = [("let",)] + turned(2001) + program
        self.check_error(NotShown, {}, found_test, program=great, other=great)

    def test_plain_rows(self):
        for many in range(1, 12):
            for place in range(many):
                # Nothing can be done but that a count is taken from the row.
                self.assertTrue(is_plain(row_part(many, place)))
        self.assertEqual(row_part(2, 1), [("fun", pair(COUNT, COUNT)), ("second",), ("name", 0)])


if __name__ == "__main__":
    unittest.main()
