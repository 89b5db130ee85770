"""selfprint.left: [71] to [75], and [4]: left."""

import random
import unittest

from helper import (
    A, B, COUNT, ODD, Checks, changed_code, counts_kind, deep, fun, nexts, pair, plainly_coded, plainly_read, random_called,
    sum_of, term_of, turned, wide)
from selfprint.checked import is_program, program_kind
from selfprint.compiler import compiled
from selfprint.decompiler import decompiled
from selfprint.errors import (
    InvalidArguments, InvalidCode, InvalidKind, InvalidPlaces, InvalidProgram, NotShown, TooMany, UnlikeKinds)
from selfprint.forms import form
from selfprint.left import arrows, behind, called, called_at, is_left, left_at, left_code, left_of
from selfprint.printing import is_long, printed
from selfprint.reader import read_kind, read_program
from selfprint.running import value_of

AA = fun(A, A)
ONE, TWO = [("told", 1)], [("told", 2)]
SAME = [("fun", A), ("name", 0)]
NODES = {"what": "nodes", "limit": 300}
CALLS = {"what": "calls", "limit": 2000}
SIGNS = {"what": "signs", "limit": 60}
DEPTH = {"what": "depth", "limit": 12}
SLOTS = {"what": "slots", "limit": 60}
POWER = read_program("fun n : count. fun f : a > a. fun x : a. turns n (y : a. f y) x")


def programs(*texts):
    return [read_program(text) for text in texts]


class Arrows(Checks):
    def test_none_one_and_some(self):
        for text, wanted in (("a", ""), ("count", ""), ("a * (a > a)", ""), ("(a > a) + b", ""), ("a > b", "a"),
                             ("(a > a) > a > a", "a > a,a"), ("a > (b > c) > count * count", "a,b > c"),
                             ("a > b > c > d > e > f", "a,b,c,d,e"), ("a > b * (a > a)", "a")):
            kinds = [read_kind(one) for one in wanted.split(",") if one]
            self.check(kinds, arrows, kind=read_kind(text))
        self.check([A] * 11, arrows, kind=deep(12))

    def test_kinds(self):
        self.check_invalid(InvalidKind, arrows, "kind", [value for value in ODD if value != COUNT], kind=None)


class Called(Checks):
    def test_at_no_some_and_all_arguments(self):
        program = read_program("fun n : count. fun m : count. fun k : count. (n, (m, k))")
        zero = [("told", 0)]
        self.check(program, called, program=program, arguments=[])
        self.check([("call",)] + program + zero, called, program=program, arguments=[zero])
        # The first one is called innermost.
        self.check([("call",)] * 2 + program + zero + ONE, called, program=program, arguments=[zero, ONE])
        whole = [("call",)] * 3 + program + zero + ONE + TWO
        self.check(whole, called, program=program, arguments=[zero, ONE, TWO])
        self.check(whole, called, program=tuple(program), arguments=(tuple(zero), ONE, tuple(TWO)))
        self.assertEqual(value_of(whole), ("both", 0, ("both", 1, 2)))
        self.check([("told", 5)], called, program=[("told", 5)], arguments=())

    def test_kinds_go_along(self):
        rng = random.Random(81)
        for program, arguments, _ in random_called(rng, 60, 2, 100):
            for many in range(len(arguments) + 1):
                made = called(program, arguments[:many])
                self.assertTrue(is_program(made))
                kind = program_kind(program)
                for _ in range(many):
                    kind = kind[2]
                self.assertEqual(program_kind(made), kind)

    def test_arguments(self):
        program = read_program("fun f : a > a. fun n : count. f")
        wrong = [value for value in ODD if value not in ([], ())] + [
            [ONE], [SAME, SAME], [SAME, ONE, SAME], [SAME, ONE, SAME, SAME], [[]], [SAME, None], [SAME, [("name", 0)]],
            SAME, [[("fun", B), ("name", 0)]], {"a": SAME}, [SAME, [("told", True)]], [SAME, nexts(301)], [tuple(ONE)]]
        for function in (called, left_of):
            self.check_invalid(InvalidArguments, function, "arguments", wrong, program=program, arguments=None)
        self.check_invalid(InvalidArguments, is_left, "arguments", wrong, program=program, arguments=None, value=None)
        self.check_invalid(InvalidArguments, left_code, "arguments", wrong, code=compiled(program), arguments=None)
        # What comes of the last arrow is no function, so nothing can be called.
        for text in ("5", "(fun x : a. x, 1)", "left[a] (fun x : a. x)"):
            for function in (called, left_of):
                self.check_error(InvalidArguments, {"value": [ONE]}, function, program=read_program(text), arguments=[ONE])
            code = compiled(read_program(text))
            self.check_error(InvalidArguments, {"value": [ONE]}, left_code, code=code, arguments=[ONE])

    def test_nodes(self):
        program = [("fun", COUNT), ("fun", COUNT), ("name", 0)]
        self.assertEqual(len(called(program, [nexts(296)])), 300)
        self.check_error(TooMany, NODES, called, program=program, arguments=[nexts(297)])
        self.assertEqual(len(called(program, [nexts(147), nexts(148)])), 300)
        self.check_error(TooMany, NODES, called, program=program, arguments=[nexts(148), nexts(148)])
        self.check_error(TooMany, NODES, called, program=program, arguments=[nexts(300), nexts(300)])

    def test_programs(self):
        wrong = ODD + [[("name", 0)], nexts(301)]
        for function in (called, left_of):
            self.check_invalid(InvalidProgram, function, "program", wrong, program=None, arguments=None)
        self.check_invalid(InvalidProgram, is_left, "program", wrong, program=None, arguments=None, value=None)
        for function in (called_at, left_at):
            self.check_invalid(InvalidProgram, function, "program", wrong, program=None, places=None, arguments=None)


# Programs, some first arguments, and what is left.
LEFT = [
    ("fun n : count. fun f : a > a. fun x : a. turns n (y : a. f y) x", ["2"], "fun f : a > a. fun x : a. f (f x)"),
    ("fun n : count. fun f : a > a. fun x : a. turns n (y : a. f y) x", ["2", "fun x : a. x"], "fun x : a. x"),
    ("fun n : count. next n", ["4"], "5"),
    ("fun s : count + count. which s (n. next n) (n. 0)", ["left[count] 6"], "7"),
    ("fun s : count + count. fun f : a > a. which s (n. f) (n. fun x : a. x)", ["right[count] 6"], "fun f : a > a. fun x : a. x"),
    # Arguments of kinds that are not shown.
    ("fun g : count > count. g (g 1)", ["fun n : count. turns n (m : count. next m) n"], "4"),
    ("fun g : (a + a) > a. fun x : a. g (left[a] x)", ["fun s : a + a. which s (x. x) (x. x)"], "fun x : a. x"),
    ("5", [], "5"),
    ("fun x : a. let y = x in y", [], "fun x : a. x"),
]


class LeftOf(Checks):
    def test_what_is_left(self):
        for text, texts, wanted in LEFT:
            program, arguments, wanted = read_program(text), programs(*texts), read_program(wanted)
            self.check(wanted, left_of, program=program, arguments=arguments)
            self.check(wanted, left_of, program=tuple(program), arguments=tuple(tuple(one) for one in arguments))
            self.check(True, is_left, program=program, arguments=arguments, value=wanted)
            self.check(True, is_left, program=program, arguments=tuple(arguments), value=tuple(wanted))
            self.check(wanted, left_code, code=compiled(program), arguments=arguments)

    def test_what_is_left_of_what_is_left(self):
        rng = random.Random(82)
        compared = 0
        for program, arguments, _ in random_called(rng, 120, 3, 120):
            try:
                whole = left_of(program, arguments)
            except TooMany:
                continue
            self.assertEqual(whole, printed(called(program, arguments)))
            self.assertTrue(is_long(program_kind(whole), whole))
            for many in range(len(arguments) + 1):
                try:
                    first = left_of(program, arguments[:many])
                    self.assertEqual(left_of(first, arguments[many:]), whole)
                    compared += 1
                except NotShown:
                    continue
            try:
                self.assertEqual(form(called(program, arguments)), whole)
            except TooMany:
                continue
        self.assertGreater(compared, 100)

    def test_not_shown(self):
        for text, texts in (("fun n : count. n", []), ("fun n : count. fun m : count. n", ["1"]),
                            ("fun x : a. fun n : count. x", []), ("fun n : count. (n, fun m : count. m)", ["1"])):
            program, arguments = read_program(text), programs(*texts)
            self.check_error(NotShown, {}, left_of, program=program, arguments=arguments)
            self.check_error(NotShown, {}, is_left, program=program, arguments=arguments, value=None)
            self.check_error(NotShown, {}, left_code, code=compiled(program), arguments=arguments)

    def test_not_shown_ahead_of_nodes_and_calls(self):
        program = read_program("fun n : count. fun m : count. fun k : count. n")
        self.check_error(NotShown, {}, left_of, program=program, arguments=[nexts(150), nexts(150)])
        self.check_error(NotShown, {}, left_of, program=program, arguments=[turned(2001)])
        self.check_error(NotShown, {}, left_code, code=compiled(program), arguments=[turned(2001)])

    def test_limits(self):
        program = [("fun", COUNT), ("name", 0)]
        self.check([("told", 296)], left_of, program=program, arguments=[nexts(297)])
        self.check_error(TooMany, NODES, left_of, program=program, arguments=[nexts(298)])
        self.check_error(TooMany, NODES, is_left, program=program, arguments=[nexts(298)], value=None)
        # One call is that of the fun.
        self.check([("told", 1999)], left_of, program=program, arguments=[turned(1999)])
        self.check_error(TooMany, CALLS, left_of, program=program, arguments=[turned(2000)])
        self.check_error(TooMany, CALLS, is_left, program=program, arguments=[turned(2000)], value=None)
        # Nodes of what is called are told ahead of all calls.
        self.check_error(TooMany, NODES, left_of, program=program, arguments=[turned(2001)[:-1] + nexts(296)])
        # Nodes of what is printed.
        self.assertEqual(len(left_of(POWER, [[("told", 148)]])), 299)
        self.check_error(TooMany, NODES, left_of, program=POWER, arguments=[[("told", 149)]])
        self.check_error(TooMany, NODES, left_of, program=POWER, arguments=[[("told", 1000)]])
        self.check_error(TooMany, CALLS, left_of, program=POWER, arguments=[[("told", 5000)]])

    def test_is_left_of_other_values(self):
        wanted = left_of(POWER, [ONE])
        for value in ODD + [wanted[:-1], wanted + ONE, wanted[:2] + [list(wanted[2])] + wanted[3:], POWER, called(POWER, [ONE]),
                            wanted[:-1] + [("name", False)], left_of(POWER, [TWO])]:
            self.check(False, is_left, program=POWER, arguments=[ONE], value=value)
        self.check(False, is_left, program=[("fun", COUNT), ("name", 0)], arguments=[ONE], value=[("told", True)])
        self.check(True, is_left, program=[("fun", COUNT), ("name", 0)], arguments=[ONE], value=ONE)


class AtPlaces(Checks):
    def test_places(self):
        program = read_program("fun n : count. fun f : a > a. fun m : count. fun x : a. (f x, (n, m))")
        kinds = [COUNT, AA, COUNT]
        self.check(program, called_at, program=program, places=[], arguments=[])
        self.check([("call",)] + program + ONE, called_at, program=program, places=[0], arguments=[ONE])
        self.check([("fun", COUNT)] + [("call",)] * 2 + program + [("name", 0)] + SAME, called_at, program=program, places=[1], arguments=[SAME])
        gaps = [("fun", COUNT), ("fun", AA)] + [("call",)] * 3 + program + [("name", 1), ("name", 0)] + TWO
        self.check(gaps, called_at, program=program, places=[2], arguments=[TWO])
        self.check(gaps, called_at, program=tuple(program), places=(2,), arguments=(tuple(TWO),))
        some = [("fun", AA)] + [("call",)] * 3 + program + ONE + [("name", 0)] + TWO
        self.check(some, called_at, program=program, places=[0, 2], arguments=[ONE, TWO])
        self.check([("fun", COUNT)] + [("call",)] * 3 + program + [("name", 0)] + SAME + TWO, called_at,
                   program=program, places=[1, 2], arguments=[SAME, TWO])
        self.check([("call",)] * 3 + program + ONE + SAME + TWO, called_at, program=program, places=[0, 1, 2], arguments=[ONE, SAME, TWO])
        self.assertEqual(program_kind(gaps), fun(COUNT, fun(AA, program_kind(program)[2][2][2])))
        self.assertEqual([program_kind(one) for one in (ONE, SAME, TWO)], kinds)

    def test_the_first_ones_are_called(self):
        rng = random.Random(83)
        for program, arguments, _ in random_called(rng, 40, 2, 100):
            for many in range(len(arguments) + 1):
                places = list(range(many))
                self.check(called(program, arguments[:many]), called_at, program=program, places=places, arguments=arguments[:many])

    def test_what_is_left_does_not_hang_on_the_way(self):
        rng = random.Random(84)
        compared = 0
        for program, arguments, _ in random_called(rng, 150, 3, 100):
            # The others are told behind: what was told is no argument any more.
            told = sorted(rng.sample(range(len(arguments)), rng.randrange(len(arguments) + 1)))
            others = [argument for place, argument in enumerate(arguments) if place not in told]
            try:
                made = called_at(program, told, [arguments[place] for place in told])
                self.assertTrue(is_program(made))
                self.assertEqual(left_of(made, others), left_of(program, arguments))
                first = left_at(program, told, [arguments[place] for place in told])
                self.assertEqual(first, printed(made))
                self.assertEqual(left_of(first, others), left_of(program, arguments))
                compared += 1
            except (NotShown, TooMany):
                continue
        self.assertGreater(compared, 60)

    def test_wrong_places(self):
        program = read_program("fun n : count. fun m : count. fun k : count. 1")
        wrong = [value for value in ODD if value not in ([], (), [0], (0,))] + [
            [1, 0], [0, 0], [1, 1], [0, 2, 1], [-1], [-1, 0], [True], [False], [0, True], [3], [0, 3], [0, 1, 2, 3], [10 ** 30],
            [None], ["0"], [0, None], [[0]], 0, {0: 1}, (2, 1), (3,)]
        for function in (called_at, left_at):
            self.check_invalid(InvalidPlaces, function, "places", wrong, program=program, places=None, arguments=None)
            for text in ("5", "(fun n : count. n, 1)"):
                self.check_error(InvalidPlaces, {"value": [0]}, function, program=read_program(text), places=[0], arguments=[ONE])
                self.check_error(InvalidArguments, {"value": [ONE]}, function, program=read_program(text), places=[], arguments=[ONE])

    def test_wrong_arguments(self):
        program = read_program("fun f : a > a. fun n : count. fun m : count. (f, (n, m))")
        wrong = ODD + [[], [ONE, TWO], [SAME], [[]], [None], ONE, [nexts(301)], [[("name", 0)]]]
        for function in (called_at, left_at):
            self.check_invalid(InvalidArguments, function, "arguments", wrong, program=program, places=[1], arguments=None)
            for value in ([ONE, SAME], [SAME, SAME], [SAME], [SAME, ONE, TWO], [SAME, ONE, None], []):
                self.check_error(InvalidArguments, {"value": value}, function, program=program, places=[0, 2], arguments=value)
            for value in ([ONE], None, [[]]):
                self.check_error(InvalidArguments, {"value": value}, function, program=program, places=[], arguments=value)

    def test_limits(self):
        program = read_program("fun n : count. fun m : count. (n, m)")
        size = len(program) + 4
        self.assertEqual(len(called_at(program, [1], [nexts(300 - size)])), 300)
        for many in (301 - size, 300):
            self.check_error(TooMany, NODES, called_at, program=program, places=[1], arguments=[nexts(many)])
            # Counts are not met, so what is left would not be shown.
            self.check_error(NotShown, {}, left_at, program=program, places=[1], arguments=[nexts(many)])
        program = read_program("fun f : a > a. fun n : count. fun x : a. turns n (y : a. f y) x")
        self.check(left_of(POWER, [TWO]), left_at, program=program, places=[1], arguments=[TWO])
        self.check_error(TooMany, NODES, left_at, program=program, places=[1], arguments=[nexts(299)])
        self.check_error(TooMany, NODES, left_at, program=program, places=[1], arguments=[[("told", 149)]])
        self.check_error(TooMany, CALLS, left_at, program=program, places=[1], arguments=[[("told", 2000)]])
        self.check_error(NotShown, {}, left_at, program=POWER, places=[1], arguments=[SAME])
        self.check_error(NotShown, {}, left_at, program=POWER, places=[], arguments=[])


class Behind(Checks):
    def test_what_it_is(self):
        inner, outer = programs("fun n : count. (n, n)", "fun p : count * count. next (first p)")
        wanted = [("fun", COUNT), ("call",)] + outer + [("call",)] + inner + [("name", 0)]
        self.check(wanted, behind, program=inner, other=outer)
        self.check(wanted, behind, program=tuple(inner), other=tuple(outer))
        self.assertEqual(program_kind(wanted), fun(COUNT, COUNT))
        self.assertEqual(value_of(called(wanted, [TWO])), 3)

    def test_three_in_both_ways(self):
        for texts in (["fun f : a > a. fun x : a. f (f x)", "fun f : a > a. fun x : a. f (f (f x))", "fun f : a > a. fun x : a. f x"],
                      ["fun x : a. (x, x)", "fun p : a * a. (second p, p)", "fun q : a * (a * a). second q"],
                      ["fun x : a. left[b] x", "fun s : a + b. which s (x. 1) (y. 2)", "fun n : count. next n"]):
            one, two, three = programs(*texts)
            left, right = behind(behind(one, two), three), behind(one, behind(two, three))
            self.assertEqual(printed(left), printed(right))
            self.assertEqual(left_of(left, []), left_of(right, []))
            self.assertEqual(form(left), form(right))

    def test_unlike_kinds(self):
        for one, two in (("fun n : count. n", "fun x : a. x"), ("5", "fun x : a. x"), ("fun n : count. n", "5"), ("1", "2"),
                         ("fun x : a. fun y : a. y", "fun x : a. x"), ("fun n : count. n", "(fun n : count. n, 1)"),
                         ("fun x : a. left[a] x", "fun x : a. x")):
            self.check_error(UnlikeKinds, {}, behind, program=read_program(one), other=read_program(two))

    def test_signs(self):
        for signs, is_small in ((29, True), (31, False)):
            left, right = counts_kind(wide(signs)), counts_kind(wide(29))
            one = [("fun", left), ("told", 0)]
            two = [("fun", COUNT)] + some(right)
            self.assertTrue(is_program(one) and is_program(two))
            if is_small:
                self.assertEqual(program_kind(behind(one, two)), fun(left, right))
            else:
                self.check_error(TooMany, SIGNS, behind, program=one, other=two)
                self.check_error(TooMany, SIGNS, behind, program=one, other=two[:1] + [("first",), ("both",)] + two[1:] + nexts(268))

    def test_as_deep_as_kinds_are(self):
        one, two = [("fun", counts_kind(deep(11))), ("told", 0)], [("fun", COUNT)] + some(counts_kind(deep(11)))
        self.assertEqual(program_kind(behind(one, two)), fun(counts_kind(deep(11)), counts_kind(deep(11))))

    def test_nodes(self):
        one = [("fun", COUNT)] + nexts(147, ("name", 0))
        self.assertEqual(len(behind(one, one)), 300)
        self.check_error(TooMany, NODES, behind, program=one, other=[("fun", COUNT)] + nexts(148, ("name", 0)))
        self.check_error(TooMany, NODES, behind, program=[("fun", COUNT)] + nexts(299, ("name", 0)), other=one)

    def test_programs(self):
        wrong = ODD + [[("name", 0)], nexts(301)]
        self.check_invalid(InvalidProgram, behind, "program", wrong, program=None, other=None)
        self.check_invalid(InvalidProgram, behind, "other", wrong, program=SAME, other=None)
        self.check_invalid(InvalidProgram, behind, "other", wrong, program=ONE, other=None)


def some(kind):
    """A closed term of a kind of counts, pairs and functions."""
    if kind[0] == "count":
        return [("told", 0)]
    if kind[0] == "pair":
        return [("both",)] + some(kind[1]) + some(kind[2])
    return [("fun", kind[1])] + some(kind[2])


class LeftCode(Checks):
    def test_random_ones(self):
        rng = random.Random(85)
        compared = 0
        for program, arguments, _ in random_called(rng, 80, 3, 100):
            code = compiled(program)
            try:
                wanted = left_of(program, arguments)
            except TooMany:
                continue
            self.assertEqual(left_code(code, arguments), wanted)
            self.assertEqual(left_code(code, arguments), decompiled(compiled(called(program, arguments))))
            odd = changed_code(rng, code)
            nodes, calls = plain_left_code(odd, arguments)
            if len(nodes) <= 300 and calls <= 2000:
                self.assertEqual(left_code(odd, arguments), nodes)
                compared += odd != code
        self.assertGreater(compared, 40)

    def test_codes_that_nobody_compiled(self):
        given = ([], [COUNT], COUNT, [("given",), ("next",)])
        code = [([], [], fun(COUNT, COUNT), [("make", 2, [])]), given, ([], [COUNT], COUNT, [("make", 3, []), ("given",), ("call",)]), given]
        for argument in ([("told", 4)], read_program("let x = 1 in next (next (next x))")):
            self.check([("told", 5)], left_code, code=code, arguments=[argument])
        tupled = tuple((tuple(slots), tuple(given), kind, tuple(orders)) for slots, given, kind, orders in code)
        self.check([("told", 3)], left_code, code=tupled, arguments=(tuple(TWO),))
        # What is given is a compiled function, with entries of its own, one behind another.
        turned_code = [([], [], fun(AA, fun(fun(A, AA), AA)), [("make", 1, [])]),
                       ([], [AA], fun(fun(A, AA), AA), [("make", 2, [("given",)])]),
                       ([AA], [fun(A, AA)], AA, [("make", 3, [("slot", 0), ("given",)])]),
                       ([AA, fun(A, AA)], [A], A, [("told", 3), ("slot", 1), ("slot", 0), ("given",), ("call",), ("call",), ("given",), ("call",),
                                                   ("slot", 0), ("turns",)])]
        arguments = programs("fun x : a. let y = x in y", "fun x : a. fun y : a. x")
        self.check(SAME, left_code, code=turned_code, arguments=arguments)

    def test_no_arguments(self):
        for text in ("fun f : a > a. f", "(1, fun x : a. x)", "5"):
            code = compiled(read_program(text))
            self.check(decompiled(code), left_code, code=code, arguments=[])

    def test_more_than_a_code_has(self):
        # Together there are more than 300 entries, and more than 400 orders.
        many = [("let",), ("told", 0)] * 149 + nexts(2)
        program = read_program("fun n : count. fun m : count. fun k : count. (n, (m, k))")
        self.assertEqual(len(compiled(many)), 150)
        self.check([("both",), *ONE, ("both",), *ONE, *ONE], left_code, code=compiled(program), arguments=[many, many, many])
        self.assertEqual(left_code(compiled(program), [nexts(300)] * 3)[1], ("told", 299))

    def test_limits(self):
        code = compiled([("fun", COUNT), ("name", 0)])
        self.check([("told", 1999)], left_code, code=code, arguments=[turned(1999)])
        self.check_error(TooMany, CALLS, left_code, code=code, arguments=[turned(2000)])
        self.assertEqual(len(left_code(compiled(POWER), [[("told", 148)]])), 299)
        self.check_error(TooMany, NODES, left_code, code=compiled(POWER), arguments=[[("told", 149)]])
        self.check_error(TooMany, CALLS, left_code, code=compiled(POWER), arguments=[[("told", 2000)]])

    def test_limits_of_the_compiled_ones(self):
        slots = [("let",), ("told", 0)] * 62 + [node for place in range(60) for node in (("let",), ("name", 1 + 2 * place))] + [("name", 121)]
        many = some(counts_kind(wide(29)))
        wide_one = [("first",), ("both",), ("told", 0), ("let",)] + some(counts_kind(wide(31))) + many
        deep_one = [("let",)] + some(counts_kind(deep(12))) + [("told", 0)]
        two = compiled([("fun", COUNT), ("fun", COUNT), ("name", 0)])
        for argument, told in ((slots, SLOTS), (wide_one, SIGNS), (deep_one, DEPTH)):
            self.check_error(TooMany, told, compiled, program=argument)
            self.check_error(TooMany, told, left_code, code=two, arguments=[argument, turned(3000)])
            self.check_error(TooMany, told, left_code, code=two, arguments=[turned(3000), argument])
        self.check_error(TooMany, SLOTS, left_code, code=two, arguments=[slots, deep_one])
        self.check_error(TooMany, DEPTH, left_code, code=two, arguments=[deep_one, slots])
        # Ahead of both: what is left is not shown.
        three = compiled([("fun", COUNT)] * 3 + [("name", 0)])
        self.check_error(NotShown, {}, left_code, code=three, arguments=[slots, deep_one])

    def test_codes(self):
        wrong = ODD + [POWER, [([], [], AA, [("make", 1, [])])], [([], [], COUNT, [("told", True)])]]
        self.check_invalid(InvalidCode, left_code, "code", wrong, code=None, arguments=None)


def plain_left_code(code, arguments):
    """What a code leaves, by the runner told once more, and how many calls this makes."""
    calls, kind = [], code[0][2]
    worth = plainly_coded(code, 0, [], None, calls)
    for argument in arguments:
        worth, kind = worth[1](plainly_coded(compiled(argument), 0, [], None, calls)), kind[2]
    return term_of(plainly_read(kind, worth, 0)), len(calls)


class Kinds(Checks):
    def test_pairs_and_sums_are_no_arrows(self):
        for kind in (pair(AA, AA), sum_of(AA, AA)):
            self.check([], arrows, kind=kind)
            self.check([kind], arrows, kind=fun(kind, kind))


if __name__ == "__main__":
    unittest.main()
