"""selfprint.tiny: [76] and [77]."""

import random
import unittest

from helper import A, COUNT, ODD, Checks, fun, pair, sum_of
from selfprint.checked import is_program, program_kind
from selfprint.codes import is_code
from selfprint.compiler import compiled
from selfprint.decompiler import decompiled
from selfprint.errors import InvalidTiny, TooMany
from selfprint.left import called, left_code, left_of
from selfprint.printing import printed
from selfprint.reader import read_program
from selfprint.running import value_of
from selfprint.steps import is_plain
from selfprint.terms import letters_put
from selfprint.tiny import interpreter, is_tiny, tiny_left, tiny_term

HALF = sum_of(COUNT, COUNT)
ORDER = sum_of(HALF, HALF)
WHOLE = pair(ORDER, pair(ORDER, pair(ORDER, ORDER)))
KIND = fun(WHOLE, fun(fun(A, A), fun(fun(pair(A, A), A), fun(A, A))))
NODES = {"what": "nodes", "limit": 300}

RIGHT = [
    [], [("f", 0)], [("f", 9)], [("g", 1)], [("swap", 2)], [("keep", 3)], [("f", 1), ("f", 1), ("f", 1), ("f", 1)],
    [("f", 2), ("keep", 1), ("g", 1)], [("swap", 9), ("keep", 9), ("g", 2), ("f", 0)],
]
WRONG = [value for value in ODD if value not in ([], ())] + [
    [("f", 10)], [("f", -1)], [("f", True)], [("f", False)], [("f", "1")], [("f", None)], [("f",)], [("f", 1, 1)], [["f", 1]],
    [("h", 1)], [("F", 1)], [("", 1)], [("swap ", 1)], [(1, "f")], [(None, 1)], [(["f"], 1)], [({}, 1)], [("f", 1)] * 5, ("f", 1),
    [("f", 1), None], [("f", 1), ("g", 10)], {"f": 1}, [("f", [1])], "f", [("f", 1), ["g", 1]], [("f", 10 ** 30)],
]


class Tiny(Checks):
    def test_right_ones(self):
        for tiny in RIGHT:
            self.check(True, is_tiny, value=tiny)
            self.check(True, is_tiny, value=tuple(tiny))

    def test_wrong_ones(self):
        for value in WRONG:
            self.check(False, is_tiny, value=value)
        for function in (tiny_term, tiny_left):
            self.check_invalid(InvalidTiny, function, "tiny", WRONG, tiny=None)

    def test_terms(self):
        none = [("left", HALF), ("left", COUNT), ("told", 0)]
        self.check(([("both",)] + none) * 3 + none, tiny_term, tiny=[])
        orders = {"f": ("left", "left"), "g": ("left", "right"), "swap": ("right", "left"), "keep": ("right", "right")}
        for word, (outer, inner) in orders.items():
            for times in (0, 1, 9):
                told = [(outer, HALF), (inner, COUNT), ("told", times)]
                self.check([("both",)] + told + ([("both",)] + none) * 2 + none, tiny_term, tiny=[(word, times)])
                self.check([("both",)] + told + ([("both",)] + none) * 2 + none, tiny_term, tiny=((word, times),))
        four = [("f", 1), ("g", 2), ("swap", 3), ("keep", 4)]
        told = [[(orders[word][0], HALF), (orders[word][1], COUNT), ("told", times)] for word, times in four]
        self.check([("both",)] + told[0] + [("both",)] + told[1] + [("both",)] + told[2] + told[3], tiny_term, tiny=four)

    def test_terms_are_plain_and_of_one_kind(self):
        for tiny in RIGHT:
            self.assertEqual(program_kind(tiny_term(tiny)), WHOLE)
            self.assertTrue(is_plain(tiny_term(tiny)))


def plainly_done(tiny, f, g, x):
    """[76] told once more, of any f, g and x."""
    now = kept = x
    for word, times in tiny:
        for _ in range(times):
            if word == "f":
                now = f(now)
            elif word == "g":
                now = g(now, kept)
            elif word == "swap":
                now, kept = kept, now
            else:
                kept = now
    return now


def plain_text(tiny):
    """A tiny program's own text, as a program."""
    body = plainly_done(tiny, lambda now: [("call",), ("name", 2)] + now,
                        lambda now, kept: [("call",), ("name", 1), ("both",)] + now + kept, [("name", 0)])
    return [("fun", fun(A, A)), ("fun", fun(pair(A, A), A)), ("fun", A)] + body


def random_tiny(rng, most):
    return [(rng.choice(("f", "g", "swap", "keep")), rng.randrange(most + 1)) for _ in range(rng.randrange(5))]


# What is left at each sort of order.
LEFT = [
    ([], "x"), ([("f", 0)], "x"), ([("f", 1)], "f x"), ([("f", 3)], "f (f (f x))"), ([("g", 1)], "g (x, x)"), ([("g", 2)], "g (g (x, x), x)"),
    ([("swap", 1)], "x"), ([("f", 1), ("swap", 1)], "x"), ([("f", 1), ("swap", 2)], "f x"), ([("f", 1), ("swap", 3)], "x"),
    ([("keep", 1)], "x"), ([("f", 1), ("keep", 1)], "f x"), ([("f", 1), ("keep", 1), ("g", 1)], "g (f x, f x)"),
    ([("f", 1), ("keep", 0), ("g", 1)], "g (f x, x)"), ([("f", 1), ("swap", 1), ("g", 1)], "g (x, f x)"),
    ([("f", 1), ("keep", 1), ("f", 1), ("g", 1)], "g (f (f x), f x)"), ([("g", 1), ("f", 1)], "f (g (x, x))"),
    ([("f", 1), ("g", 1), ("swap", 1), ("g", 1)], "g (x, g (f x, x))"), ([("f", 2), ("keep", 2), ("g", 1)], "g (f (f x), f (f x))"),
]


class Interpreter(Checks):
    def test_a_program_of_its_kind(self):
        program = interpreter()
        self.assertIs(type(program), list)
        self.assertTrue(is_program(program))
        self.assertEqual(program_kind(program), KIND)
        self.assertLessEqual(len(program), 200)
        self.assertTrue(is_code(compiled(program)))
        self.check(program, interpreter)

    def test_what_is_left_at_each_sort_of_order(self):
        for tiny, text in LEFT:
            wanted = read_program(f"fun f : a > a. fun g : a * a > a. fun x : a. {text}")
            self.assertEqual(plain_text(tiny), wanted)
            self.check(wanted, tiny_left, tiny=tiny)
            self.check(wanted, tiny_left, tiny=tuple(tiny))
            self.check(wanted, left_of, program=interpreter(), arguments=[tiny_term(tiny)])

    def test_random_ones(self):
        rng = random.Random(86)
        for _ in range(60):
            tiny = random_tiny(rng, 4)
            wanted = plain_text(tiny)
            if len(wanted) <= 300:
                self.assertEqual(tiny_left(tiny), wanted)
                self.assertEqual(printed(wanted), wanted)
                self.assertEqual(decompiled(compiled(called(interpreter(), [tiny_term(tiny)]))), wanted)
                self.assertEqual(left_code(compiled(interpreter()), [tiny_term(tiny)]), wanted)
            else:
                self.check_error(TooMany, NODES, tiny_left, tiny=tiny)

    def test_many_nodes(self):
        # Each f is two nodes more, each g three and the kept one.
        self.assertEqual(len(tiny_left([("g", 9), ("f", 9), ("g", 9), ("f", 9)])), 4 + 18 * 4 + 18 * 2)
        self.check_error(TooMany, NODES, tiny_left, tiny=[("g", 9), ("keep", 1), ("g", 9)])
        self.check_error(TooMany, NODES, tiny_left, tiny=[("g", 9), ("keep", 1), ("g", 9), ("keep", 9)])

    def test_the_last_node(self):
        met = set()
        for first in range(1, 10):
            for second in range(1, 10):
                for third in range(10):
                    tiny = [("g", first), ("keep", 1), ("g", second), ("f", third)]
                    size = len(plain_text(tiny))
                    if 298 <= size <= 302 and size not in met:
                        met.add(size)
                        if size <= 300:
                            self.assertEqual(tiny_left(tiny), plain_text(tiny))
                        else:
                            self.check_error(TooMany, NODES, tiny_left, tiny=tiny)
        self.assertTrue(met & {298, 299, 300} and met & {301, 302}, met)

    def test_called_at_f_and_g_and_a_count(self):
        program = letters_put(interpreter(), 0, COUNT)
        f = read_program("fun n : count. next (next n)")
        g = read_program("fun p : count * count. turns (first p) (n : count. next n) (next (second p))")
        rng = random.Random(87)
        for _ in range(40):
            tiny = random_tiny(rng, 3)
            wanted = plainly_done(tiny, lambda now: now + 2, lambda now, kept: now + kept + 1, 4)
            if wanted < 400:
                self.assertEqual(value_of(called(program, [tiny_term(tiny), f, g, [("told", 4)]])), wanted)


if __name__ == "__main__":
    unittest.main()
