"""selfprint.orders: [64], and the facts of [65] on worths and calls."""

import random
import unittest

from helper import (
    A, COUNT, ODD, Checks, changed_code, fun, pair, plainly_coded, random_data_programs, random_programs, sum_of, turned)
from selfprint.codes import is_code
from selfprint.compiler import compiled
from selfprint.errors import InvalidCode, NotData, TooMany
from selfprint.orders import code_calls, run_code
from selfprint.running import call_count, value_of

AA, CC = fun(A, A), fun(COUNT, COUNT)
TWO = pair(COUNT, COUNT)
SIDES = sum_of(COUNT, COUNT)
CALLS = {"what": "calls", "limit": 2000}
NEXT = ([], [COUNT], COUNT, [("given",), ("next",)])
SAME = ([], [COUNT], COUNT, [("given",)])


def start(kind, *orders):
    return ([], [], kind, list(orders))


# Codes, their worths and how many calls there are.
RUNS = [
    ([start(COUNT, ("told", 8))], 8, 0),
    ([start(COUNT, ("told", 8), ("next",))], 9, 0),
    ([start(COUNT, ("told", 999999), ("next",))], 1000000, 0),
    ([start(COUNT, ("told", 1000000), ("next",))], 1000000, 0),
    ([start(TWO, ("told", 1), ("told", 2), ("both",))], ("both", 1, 2), 0),
    ([start(COUNT, ("told", 1), ("told", 2), ("both",), ("first",))], 1, 0),
    ([start(COUNT, ("told", 1), ("told", 2), ("both",), ("second",))], 2, 0),
    ([start(SIDES, ("told", 1), ("left", COUNT))], ("left", 1), 0),
    ([start(SIDES, ("told", 1), ("right", COUNT))], ("right", 1), 0),
    ([start(pair(SIDES, TWO), ("told", 1), ("right", COUNT), ("told", 2), ("told", 3), ("both",), ("both",))],
     ("both", ("right", 1), ("both", 2, 3)), 0),
    # A made one that is not called begins nothing.
    ([start(COUNT, ("told", 1), ("make", 1, []), ("both",), ("first",)), NEXT], 1, 0),
    ([start(COUNT, ("make", 1, []), ("told", 1), ("call",)), NEXT], 2, 1),
    ([start(COUNT, ("make", 1, []), ("make", 1, []), ("told", 1), ("call",), ("call",)), NEXT], 3, 2),
    # The sides of which, and their functions.
    ([start(COUNT, ("told", 1), ("left", COUNT), ("make", 1, []), ("make", 2, []), ("which",)), NEXT, SAME], 2, 1),
    ([start(COUNT, ("told", 1), ("right", COUNT), ("make", 1, []), ("make", 2, []), ("which",)), NEXT, SAME], 1, 1),
    # Turns: none, one and more.
    ([start(COUNT, ("told", 0), ("told", 5), ("make", 1, []), ("turns",)), NEXT], 5, 0),
    ([start(COUNT, ("told", 1), ("told", 5), ("make", 1, []), ("turns",)), NEXT], 6, 1),
    ([start(COUNT, ("told", 7), ("told", 5), ("make", 1, []), ("turns",)), NEXT], 12, 7),
    # Slots in the sequence of the sources, and what is given.
    ([start(COUNT, ("make", 1, []), ("told", 4), ("call",)),
      ([], [COUNT], COUNT, [("make", 2, [("given",)]), ("told", 5), ("call",)]),
      ([COUNT], [COUNT], COUNT, [("make", 3, [("given",), ("slot", 0)]), ("told", 6), ("call",)]),
      ([COUNT, COUNT], [COUNT], COUNT, [("slot", 0)])], 5, 3),
    ([start(pair(TWO, COUNT), ("make", 1, []), ("told", 4), ("call",)),
      ([], [COUNT], pair(TWO, COUNT), [("make", 2, [("given",)]), ("told", 5), ("call",)]),
      ([COUNT], [COUNT], pair(TWO, COUNT), [("make", 3, [("given",), ("slot", 0)]), ("told", 6), ("call",)]),
      ([COUNT, COUNT], [COUNT], pair(TWO, COUNT), [("slot", 0), ("slot", 1), ("both",), ("given",), ("both",)])],
     ("both", ("both", 5, 4), 6), 3),
    # Functions that are handed on: made here, called there; also as the functions of which and of turns.
    ([start(COUNT, ("make", 1, []), ("make", 2, []), ("call",)),
      ([], [CC], COUNT, [("given",), ("given",), ("told", 1), ("call",), ("call",)]), NEXT], 3, 3),
    ([start(COUNT, ("make", 1, []), ("make", 2, []), ("call",)),
      ([], [CC], COUNT, [("told", 3), ("told", 1), ("given",), ("turns",)]), NEXT], 4, 4),
    ([start(COUNT, ("make", 1, []), ("make", 2, []), ("call",)),
      ([], [CC], COUNT, [("told", 3), ("left", COUNT), ("given",), ("given",), ("which",)]), NEXT], 4, 2),
    # A function of which that comes out of a call, in the sequence of the orders.
    ([start(COUNT, ("make", 1, []), ("told", 3), ("call",), ("told", 2), ("call",)),
      ([], [COUNT], CC, [("make", 2, [("given",)])]), ([COUNT], [COUNT], COUNT, [("slot", 0)])], 3, 2),
    # Turns within turns.
    ([start(COUNT, ("told", 3), ("told", 0), ("make", 1, []), ("turns",)),
      ([], [COUNT], COUNT, [("told", 2), ("given",), ("make", 2, []), ("turns",)]), NEXT], 6, 9),
    # An entry that no order reaches is not run.
    ([start(COUNT, ("told", 8)), ([], [COUNT], COUNT, [("make", 2, []), ("given",), ("call",)]), NEXT], 8, 0),
]
# Codes of kinds that are no data kinds, and how many calls there are.
OTHERS = [
    ([start(AA, ("make", 1, [])), ([], [A], A, [("given",)])], 0),
    ([start(pair(CC, COUNT), ("make", 1, []), ("make", 1, []), ("told", 1), ("call",), ("both",)), NEXT], 1),
    ([start(fun(A, CC), ("make", 1, [])), ([], [A], CC, [("make", 2, [])]), NEXT], 0),
    ([start(sum_of(COUNT, A), ("told", 1), ("left", A))], 0),
    ([start(CC, ("told", 4), ("make", 1, []), ("make", 2, []), ("turns",)), NEXT, ([], [CC], CC, [("given",)])], 4),
]


class Run(Checks):
    def test_each_order(self):
        for code, worth, calls in RUNS:
            self.check(worth, run_code, code=code)
            self.check(calls, code_calls, code=code)
            tupled = tuple((tuple(slots), tuple(given), kind, tuple(orders)) for slots, given, kind, orders in code)
            self.check(worth, run_code, code=tupled)
            self.check(calls, code_calls, code=tupled)

    def test_calls_of_any_code(self):
        for code, calls in OTHERS:
            self.check(calls, code_calls, code=code)

    def test_worth_and_calls_of_programs(self):
        rng = random.Random(67)
        called = 0
        for program in random_data_programs(rng, 150, 3, 150):
            code = compiled(program)
            self.assertEqual(run_code(code), value_of(program))
            self.assertEqual(code_calls(code), call_count(program))
            called += call_count(program)
        for program in random_programs(rng, 100, 3, 100):
            self.assertEqual(code_calls(compiled(program)), call_count(program))
        self.assertGreater(called, 1000)

    def test_codes_that_nobody_compiled(self):
        rng = random.Random(68)
        for program in random_data_programs(rng, 100, 3, 100):
            code = changed_code(rng, compiled(program))
            self.assertTrue(is_code(code))
            calls = []
            worth = plainly_coded(code, 0, [], None, calls)
            self.assertEqual(run_code(code), worth)
            self.assertEqual(code_calls(code), len(calls))

    def test_all_entries(self):
        # As many entries as there can be, one called in the other, and a deep row of calls.
        code = [start(COUNT, ("make", 1, []), ("told", 0), ("call",))]
        code += [([], [COUNT], COUNT, [("make", place + 1, []), ("given",), ("next",), ("call",)]) for place in range(1, 299)]
        code.append(NEXT)
        self.check(299, run_code, code=code)
        self.check(299, code_calls, code=code)


def counted(calls):
    """A code of count with just so many calls."""
    return [start(COUNT, ("told", calls), ("told", 0), ("make", 1, []), ("turns",)), NEXT]


class Limits(Checks):
    def test_turns(self):
        for calls in (0, 1, 1999, 2000):
            self.check(calls, run_code, code=counted(calls))
            self.check(calls, code_calls, code=counted(calls))
        for calls in (2001, 2002, 1000000):
            self.check_error(TooMany, CALLS, run_code, code=counted(calls))
            self.check_error(TooMany, CALLS, code_calls, code=counted(calls))

    def test_calls_and_which(self):
        for last in ([("make", 1, []), ("told", 0), ("call",)],
                     [("told", 0), ("left", COUNT), ("make", 1, []), ("make", 1, []), ("which",)],
                     [("told", 1), ("told", 0), ("make", 1, []), ("turns",)]):
            for calls in (1999, 2000):
                code = counted(calls)
                code = [start(COUNT, *code[0][3], *last, ("both",), ("second",)), NEXT]
                if calls == 1999:
                    self.check(1, run_code, code=code)
                    self.check(2000, code_calls, code=code)
                else:
                    self.check_error(TooMany, CALLS, run_code, code=code)
                    self.check_error(TooMany, CALLS, code_calls, code=code)

    def test_of_compiled_ones(self):
        for calls in (1999, 2000):
            code = compiled(turned(calls))
            self.check(calls, run_code, code=code)
            self.check(calls, code_calls, code=code)
        self.check_error(TooMany, CALLS, run_code, code=compiled(turned(2001)))
        self.check_error(TooMany, CALLS, code_calls, code=compiled(turned(2001)))


class Errors(Checks):
    def test_no_codes(self):
        wrong = ODD + [[NEXT], [start(COUNT, ("told", True))], [start(COUNT, ("told", 1), ("told", 2))], [start(COUNT, ("make", 1, []))]]
        for function in (run_code, code_calls):
            self.check_invalid(InvalidCode, function, "code", wrong, code=None)

    def test_not_data(self):
        for code, _ in OTHERS:
            self.check_error(NotData, {}, run_code, code=code)

    def test_not_data_ahead_of_too_many(self):
        code = [start(fun(A, COUNT), ("make", 2, []), *counted(2001)[0][3], ("both",), ("first",)), NEXT, ([], [A], COUNT, [("told", 1)])]
        self.check_error(NotData, {}, run_code, code=code)
        self.check_error(TooMany, CALLS, code_calls, code=code)


if __name__ == "__main__":
    unittest.main()
