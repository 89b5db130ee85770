"""selfprint.decompiler: [66], and [4]: printed as compiled code, with the same calls."""

import random
import unittest

from helper import (
    A, B, COUNT, ODD, Checks, changed_code, fun, is_plainly_shown, pair, plain_decompiled, random_programs, shown_programs, sum_of)
from selfprint.checked import program_kind
from selfprint.codes import code_kind, is_code, shaken
from selfprint.compiler import compiled
from selfprint.decompiler import decompiled
from selfprint.errors import InvalidCode, NotShown, TooMany
from selfprint.forms import form
from selfprint.orders import code_calls
from selfprint.printing import is_long, print_calls, printed
from selfprint.reader import read_program

AA, CC = fun(A, A), fun(COUNT, COUNT)
CALLS = {"what": "calls", "limit": 2000}
NODES = {"what": "nodes", "limit": 300}
GIVEN = ([], [A], A, [("given",)])
COUNTED = ([], [COUNT], COUNT, [("given",)])


def start(kind, *orders):
    return ([], [], kind, list(orders))


def of_fun(kind, given, told, *orders):
    """A code of a fun within a fun: what entry 1 is given is the slot of entry 2, which does the orders."""
    return [start(kind, ("make", 1, [])), ([], [given], kind[2], [("make", 2, [("given",)])]),
            ([given], [kind[2][1]], told, list(orders))]


# A fun of functions f of a > a, and of x.
TO_A = fun(AA, AA)
# Codes that nobody compiled, what they print, and how many calls this makes.
CODES = [
    ([start(COUNT, ("told", 8), ("next",))], "9", 0),
    ([start(pair(COUNT, COUNT), ("told", 8), ("told", 9), ("both",))], "(8, 9)", 0),
    ([start(sum_of(COUNT, A), ("told", 8), ("left", A))], "left[a] 8", 0),
    ([start(sum_of(A, COUNT), ("told", 8), ("right", A))], "right[a] 8", 0),
    ([start(AA, ("make", 1, [])), GIVEN], "fun x : a. x", 1),
    ([start(AA, ("make", 2, [])), GIVEN, ([], [A], A, [("make", 3, []), ("given",), ("call",)]), GIVEN], "fun x : a. x", 2),
    # One entry that stands for two funs.
    ([start(pair(AA, AA), ("make", 1, []), ("make", 1, []), ("both",)), GIVEN], "(fun x : a. x, fun x : a. x)", 2),
    # A slot that is not told, and two slots for one thing.
    ([start(fun(A, AA), ("make", 1, [])), ([], [A], AA, [("make", 2, [("given",), ("given",)])]), ([A, A], [A], A, [("slot", 1)])],
     "fun x : a. fun y : a. x", 2),
    # What is given is a function, called at once.
    (of_fun(TO_A, AA, A, ("slot", 0), ("given",), ("call",)), "fun f : a > a. fun x : a. f x", 2),
    ([start(fun(AA, AA), ("make", 1, [])), ([], [AA], AA, [("given",)])], "fun f : a > a. fun x : a. f x", 1),
    # Which of two new names: it begins no entry.
    (of_fun(TO_A, AA, A, ("given",), ("left", A), ("slot", 0), ("slot", 0), ("which",)), "fun f : a > a. fun x : a. f x", 2),
    ([start(fun(AA, fun(AA, AA)), ("make", 1, [])), ([], [AA], fun(AA, AA), [("make", 2, [("given",)])]),
      ([AA], [AA], AA, [("make", 3, [("slot", 0), ("given",)])]),
      ([AA, AA], [A], A, [("given",), ("right", A), ("slot", 0), ("slot", 1), ("which",)])],
     "fun f : a > a. fun g : a > a. fun x : a. g x", 3),
    # Turns of a new name: each is a call.
    (of_fun(TO_A, AA, A, ("told", 0), ("given",), ("slot", 0), ("turns",)), "fun f : a > a. fun x : a. x", 2),
    (of_fun(TO_A, AA, A, ("told", 1), ("given",), ("slot", 0), ("turns",)), "fun f : a > a. fun x : a. f x", 3),
    (of_fun(TO_A, AA, A, ("told", 3), ("given",), ("slot", 0), ("turns",)), "fun f : a > a. fun x : a. f (f (f x))", 5),
    # Turns of a new name with a call ahead of it.
    ([start(fun(fun(A, AA), AA), ("make", 1, [])), ([], [fun(A, AA)], AA, [("make", 2, [("given",)])]),
      ([fun(A, AA)], [A], A, [("told", 2), ("given",), ("slot", 0), ("given",), ("call",), ("turns",)])],
     "fun g : a > a > a. fun x : a. g x (g x x)", 4),
    # Turns of a function that was handed on, a made one then.
    ([start(AA, ("make", 1, [])), ([], [A], A, [("told", 3), ("given",), ("make", 2, []), ("turns",)]), GIVEN], "fun x : a. x", 4),
    # Parts of a new name.
    ([start(fun(pair(A, B), B), ("make", 1, [])), ([], [pair(A, B)], B, [("given",), ("second",)])], "fun p : a * b. second p", 1),
    ([start(fun(pair(A, B), pair(A, B)), ("make", 1, [])), ([], [pair(A, B)], pair(A, B), [("given",)])],
     "fun p : a * b. (first p, second p)", 1),
    ([start(fun(pair(AA, A), A), ("make", 1, [])),
      ([], [pair(AA, A)], A, [("given",), ("first",), ("given",), ("second",), ("call",)])], "fun p : (a > a) * a. first p (second p)", 1),
]


class Decompiled(Checks):
    def test_codes_that_nobody_compiled(self):
        for code, text, calls in CODES:
            wanted = read_program(text)
            self.assertEqual(plain_decompiled(code), (wanted, calls))
            self.check(wanted, decompiled, code=code)
            tupled = tuple((tuple(slots), tuple(given), kind, tuple(orders)) for slots, given, kind, orders in code)
            self.check(wanted, decompiled, code=tupled)
            self.check(wanted, decompiled, code=shaken(code))
            self.check(wanted, decompiled, code=compiled(wanted))

    def test_their_calls(self):
        for code, text, calls in CODES:
            self.check(read_program(text), decompiled, code=ahead(2000 - calls, code))
            self.check_error(TooMany, CALLS, decompiled, code=ahead(2001 - calls, code))

    def test_compiled_programs(self):
        rng = random.Random(72)
        for program in shown_programs(rng, 150, 4, 120):
            kind, code = program_kind(program), compiled(program)
            nodes, calls = plain_decompiled(code)
            if len(nodes) > 300 or calls > 2000:
                continue
            self.assertEqual(nodes, decompiled(code))
            self.assertEqual(nodes, printed(program))
            self.assertEqual(calls, print_calls(program))
            self.assertTrue(is_long(kind, nodes))
            self.assertEqual(decompiled(compiled(nodes)), nodes)
            try:
                self.assertEqual(form(program), nodes)
            except TooMany:
                continue

    def test_calls_of_compiled_programs(self):
        rng = random.Random(73)
        for program in shown_programs(rng, 20, 3, 80):
            code, calls = compiled(program), print_calls(program)
            self.assertEqual(decompiled(ahead(2000 - calls, code)), printed(program))
            self.check_error(TooMany, CALLS, decompiled, code=ahead(2001 - calls, code))

    def test_changed_codes(self):
        rng = random.Random(74)
        unlike = 0
        for program in shown_programs(rng, 150, 4, 100):
            code = changed_code(rng, compiled(program))
            self.assertTrue(is_code(code))
            nodes, calls = plain_decompiled(code)
            if len(nodes) > 300 or calls > 2000:
                continue
            self.assertEqual(decompiled(code), nodes)
            self.assertTrue(is_long(code_kind(code), nodes))
            self.assertLessEqual(code_calls(code), calls)
            unlike += code != compiled(program)
        self.assertGreater(unlike, 100)


def ahead(calls, code):
    """The code, which makes so many calls ahead of all others."""
    turned = [("told", calls), ("told", 0), ("make", len(code), []), ("turns",)]
    slots, given, kind, orders = code[0]
    return [(slots, given, kind, turned + orders + [("both",), ("second",)])] + code[1:] + [COUNTED]


def often(many):
    """What prints 2 * many + 3 nodes with many + 2 calls: turns of a new name."""
    return of_fun(TO_A, AA, A, ("told", many), ("given",), ("slot", 0), ("turns",))


def to_left(times, code):
    """The code whose worth is put to the left so often."""
    slots, given, kind, orders = code[0]
    for _ in range(times):
        kind, orders = sum_of(kind, A), orders + [("left", A)]
    return [(slots, given, kind, orders)] + code[1:]


class Limits(Checks):
    def test_calls(self):
        same = [start(AA, ("make", 1, [])), GIVEN]
        for calls in (1, 1998, 1999):
            self.check([("fun", A), ("name", 0)], decompiled, code=ahead(calls, same))
        for calls in (2000, 2001, 1000000):
            self.check_error(TooMany, CALLS, decompiled, code=ahead(calls, same))
        # All but the fun's own are made in it.
        for turns, is_small in ((1999, True), (2000, False)):
            code = [start(AA, ("make", 1, [])), ([], [A], A, [("told", turns), ("given",), ("make", 2, []), ("turns",)]), GIVEN]
            if is_small:
                self.check([("fun", A), ("name", 0)], decompiled, code=code)
            else:
                self.check_error(TooMany, CALLS, decompiled, code=code)

    def test_nodes(self):
        for many in (0, 1, 147, 148):
            self.assertEqual(len(decompiled(often(many))), 2 * many + 3)
        self.assertEqual(len(decompiled(to_left(1, often(148)))), 300)
        self.check_error(TooMany, NODES, decompiled, code=to_left(2, often(148)))
        self.check_error(TooMany, NODES, decompiled, code=often(149))

    def test_which_limit_is_met_first(self):
        # All calls of the turns are made ahead of the row that they make.
        self.check_error(TooMany, NODES, decompiled, code=often(1998))
        self.check_error(TooMany, CALLS, decompiled, code=often(1999))
        self.check_error(TooMany, CALLS, decompiled, code=ahead(1851, often(149)))
        self.check_error(TooMany, NODES, decompiled, code=ahead(1849, often(149)))
        # At last a fun is printed, then called, then its body is printed.
        kind = pair(TO_A, AA)
        whole = often(146)
        orders = [*whole[0][3], ("make", 3, []), ("both",)]
        code = [start(kind, *orders), *whole[1:], GIVEN]
        self.assertEqual(len(decompiled(code)), 298)
        for calls, lefts, told in ((1851, 2, None), (1852, 2, CALLS), (1851, 3, NODES), (1852, 3, CALLS), (1852, 4, NODES)):
            changed = ahead(calls, to_left(lefts, code))
            if told is None:
                self.assertEqual(len(decompiled(changed)), 300)
            else:
                self.check_error(TooMany, told, decompiled, code=changed)


class Errors(Checks):
    def test_no_codes(self):
        wrong = ODD + [[GIVEN], [start(AA, ("make", 1, []))], [start(COUNT, ("told", True))]]
        self.check_invalid(InvalidCode, decompiled, "code", wrong, code=None)

    def test_not_shown(self):
        for code in ([start(CC, ("make", 1, [])), COUNTED], [start(fun(sum_of(A, A), COUNT), ("make", 1, [])), ([], [sum_of(A, A)], COUNT, [("told", 1)])],
                     [start(pair(COUNT, CC), ("told", 1), ("make", 1, []), ("both",)), COUNTED]):
            self.check_error(NotShown, {}, decompiled, code=code)
            self.check_error(NotShown, {}, decompiled, code=ahead(2001, code))

    def test_shown_or_not(self):
        rng = random.Random(75)
        for program in random_programs(rng, 60, 2, 30):
            code = compiled(program)
            if is_plainly_shown(code_kind(code)):
                self.assertEqual(decompiled(code), printed(program))
            else:
                self.check_error(NotShown, {}, decompiled, code=code)


if __name__ == "__main__":
    unittest.main()
