"""selfprint.compiler: [65]."""

import random
import unittest

from helper import (
    A, B, COUNT, ODD, Checks, deep, fun, is_plainly_right, nexts, pair, plain_decompiled, plainly_coded, positions_of,
    random_data_programs, random_programs, same, shown_programs, sum_of, tree_of, wide)
from selfprint.checked import is_program, kinds_at, program_kind
from selfprint.codes import code_kind, is_code, shaken
from selfprint.compiler import compiled
from selfprint.decompiler import decompiled
from selfprint.errors import InvalidProgram, TooMany
from selfprint.orders import code_calls, run_code
from selfprint.printing import print_calls, printed
from selfprint.reader import read_kind, read_program
from selfprint.running import call_count, value_of

ONE = ("told", 1)
SLOTS = {"what": "slots", "limit": 60}
SIGNS = {"what": "signs", "limit": 60}
DEPTH = {"what": "depth", "limit": 12}


def entry(slots, given, kind, *orders):
    """An entry with kinds told as texts, with blanks between those of slots."""
    return ([read_kind(one) for one in slots.split()], [read_kind(given)] if given else [], read_kind(kind), list(orders))


def make(number, *sources):
    return ("make", number, [GIVEN if source == "given" else ("slot", source) for source in sources])


GIVEN = ("given",)

# Programs and their codes.
CODES = [
    ("8", [entry("", "", "count", ("told", 8))]),
    ("next 8", [entry("", "", "count", ("told", 8), ("next",))]),
    ("(1, next 2)", [entry("", "", "count * count", ("told", 1), ("told", 2), ("next",), ("both",))]),
    ("first (1, 2)", [entry("", "", "count", ("told", 1), ("told", 2), ("both",), ("first",))]),
    ("second (1, 2)", [entry("", "", "count", ("told", 1), ("told", 2), ("both",), ("second",))]),
    ("left[a] 1", [entry("", "", "count + a", ("told", 1), ("left", A))]),
    ("right[a > b] 1", [entry("", "", "(a > b) + count", ("told", 1), ("right", fun(A, B)))]),
    # A fun tells a made one alone.
    ("fun x : a. x", [entry("", "", "a > a", make(1)), entry("", "a", "a", GIVEN)]),
    ("fun x : a. 1", [entry("", "", "a > count", make(1)), entry("", "a", "count", ONE)]),
    ("fun x : a. fun y : b. x", [entry("", "", "a > b > a", make(1)), entry("", "a", "b > a", make(2, "given")),
                                 entry("a", "b", "a", ("slot", 0))]),
    ("fun x : a. fun y : b. y", [entry("", "", "a > b > b", make(1)), entry("", "a", "b > b", make(2)), entry("", "b", "b", GIVEN)]),
    # Slots: the nearest binder first, each once, in whatever sequence names stand.
    ("fun x : a. fun y : b. fun z : count. (x, (y, (z, x)))",
     [entry("", "", "a > b > count > a * (b * (count * a))", make(1)),
      entry("", "a", "b > count > a * (b * (count * a))", make(2, "given")),
      entry("a", "b", "count > a * (b * (count * a))", make(3, "given", 0)),
      entry("b a", "count", "a * (b * (count * a))", ("slot", 1), ("slot", 0), GIVEN, ("slot", 1), ("both",), ("both",), ("both",))]),
    # A binder for which no name stands further in is no slot there.
    ("fun x : a. fun y : b. fun z : count. x",
     [entry("", "", "a > b > count > a", make(1)), entry("", "a", "b > count > a", make(2, "given")),
      entry("a", "b", "count > a", make(3, 0)), entry("a", "count", "a", ("slot", 0))]),
    # A call: the function, the argument, call.
    ("(fun x : count. next x) 4", [entry("", "", "count", make(1), ("told", 4), ("call",)), entry("", "count", "count", GIVEN, ("next",))]),
    ("fun f : a > a. fun x : a. f (f x)",
     [entry("", "", "(a > a) > a > a", make(1)), ([], [fun(A, A)], fun(A, A), [make(2, "given")]),
      ([fun(A, A)], [A], A, [("slot", 0), ("slot", 0), GIVEN, ("call",), ("call",)])]),
    # Which: the sum, both arms, which. Entries stand by the positions of their bodies.
    ("which (left[a] 3) (x. next x) (y. 7)",
     [entry("", "", "count", ("told", 3), ("left", A), make(1), make(2), ("which",)), entry("", "count", "count", GIVEN, ("next",)),
      entry("", "a", "count", ("told", 7))]),
    ("fun s : count + a. fun x : a. which s (n. x) (y. y)",
     [entry("", "", "count + a > a > a", make(1)), ([], [sum_of(COUNT, A)], fun(A, A), [make(2, "given")]),
      ([sum_of(COUNT, A)], [A], A, [("slot", 0), make(3, "given"), make(4), ("which",)]),
      entry("a", "count", "a", ("slot", 0)), entry("", "a", "a", GIVEN)]),
    # Turns: how many, the start, the step, turns; the step's body stands ahead of the start's.
    ("turns 3 (x : count. next x) 4",
     [entry("", "", "count", ("told", 3), ("told", 4), make(1), ("turns",)), entry("", "count", "count", GIVEN, ("next",))]),
    ("turns (let n = 1 in n) (x : count. next x) (let m = 2 in next m)",
     [entry("", "", "count", make(1), ("told", 1), ("call",), make(3), ("told", 2), ("call",), make(2), ("turns",)),
      entry("", "count", "count", GIVEN), entry("", "count", "count", GIVEN, ("next",)), entry("", "count", "count", GIVEN, ("next",))]),
    # Let: the body, what is let, call.
    ("let x = 1 in next x", [entry("", "", "count", make(1), ONE, ("call",)), entry("", "count", "count", GIVEN, ("next",))]),
    ("let x = 1 in let y = 2 in (x, y)",
     [entry("", "", "count * count", make(1), ONE, ("call",)),
      entry("", "count", "count * count", make(2, "given"), ("told", 2), ("call",)),
      entry("count", "count", "count * count", ("slot", 0), GIVEN, ("both",))]),
    ("let x = (let y = 1 in next y) in x",
     [entry("", "", "count", make(2), make(1), ONE, ("call",), ("call",)), entry("", "count", "count", GIVEN, ("next",)),
      entry("", "count", "count", GIVEN)]),
    # Entries as they stand in the program, whatever makes them.
    ("((fun x : a. x, fun y : b. y), fun z : count. z)",
     [entry("", "", "((a > a) * (b > b)) * (count > count)", make(1), make(2), ("both",), make(3), ("both",)),
      entry("", "a", "a", GIVEN), entry("", "b", "b", GIVEN), entry("", "count", "count", GIVEN)]),
    # The binders of a body within what a body binds itself.
    ("fun f : a > a. fun x : a. turns 2 (y : a. f y) (f x)",
     [entry("", "", "(a > a) > a > a", make(1)), ([], [fun(A, A)], fun(A, A), [make(2, "given")]),
      ([fun(A, A)], [A], A, [("told", 2), ("slot", 0), GIVEN, ("call",), make(3, 0), ("turns",)]),
      ([fun(A, A)], [A], A, [("slot", 0), GIVEN, ("call",)])]),
]


class Plain(Checks):
    def test_each_sort_of_node(self):
        for text, code in CODES:
            program = read_program(text)
            self.check(code, compiled, program=program)
            self.check(code, compiled, program=tuple(program))
            self.assertTrue(is_code(code))

    def test_random_ones(self):
        rng = random.Random(69)
        for program in random_programs(rng, 200, 4, 120) + shown_programs(rng, 100, 4, 120):
            found = compiled(program)
            self.assertTrue(same(found, plainly_compiled(program)), program)
            self.assertTrue(is_code(found) and is_plainly_right(found))
            self.assertEqual(code_kind(found), program_kind(program))
            self.assertEqual(shaken(found), found)

    def test_worth_and_calls(self):
        rng = random.Random(70)
        for program in random_data_programs(rng, 100, 3, 120):
            self.assertEqual(run_code(compiled(program)), value_of(program))
            self.assertEqual(code_calls(compiled(program)), call_count(program))

    def test_print_and_its_calls(self):
        rng = random.Random(71)
        for program in shown_programs(rng, 100, 3, 100):
            code = compiled(program)
            nodes, calls = plain_decompiled(code)
            self.assertEqual(nodes, printed(program))
            self.assertEqual(nodes, decompiled(code))
            self.assertEqual(calls, print_calls(program))

    def test_of_many_nodes(self):
        program = nexts(300)
        self.check([([], [], COUNT, [("told", 0)] + [("next",)] * 299)], compiled, program=program)
        # A long row of lets, with a name for the outermost one.
        program = [("let",), ONE] * 149 + [("next",), ("name", 148)]
        code = compiled(program)
        self.assertEqual(len(code), 150)
        self.assertEqual(code[149], ([COUNT], [COUNT], COUNT, [("slot", 0), ("next",)]))
        self.assertEqual([one[0] for one in code], [[], []] + [[COUNT]] * 148)
        self.assertEqual(run_code(code), 2)


def plainly_compiled(program):
    """[65] told once more, over a tree with positions, whose names are told by their binders."""
    kinds, bodies = kinds_at([], program), [(0, None, None, [])]

    def found_bodies(tree, row):
        """The tree with names as (position of their binders' bodies); all bodies are noted as they are met."""
        position, node, inner = tree
        if node[0] == "name":
            return position, ("name", row[node[1]]), []
        places = {"fun": (0,), "which": (1, 2), "turns": (1,), "let": (1,)}.get(node[0], ())
        below = []
        for number, child in enumerate(inner):
            if number in places:
                start = kinds[inner[0][0]]
                bound = {"fun": node[-1], "turns": node[-1], "let": start}.get(node[0]) or start[number]
                bodies.append((child[0], child, bound, row))
                child = found_bodies(child, [child[0]] + row)
            else:
                child = found_bodies(child, row)
            below.append(child)
        return position, node, below

    whole = found_bodies(positions_of(tree_of(program)), [])
    trees = {}

    def noted(tree):
        trees[tree[0]] = tree
        for child in tree[2]:
            noted(child)

    noted(whole)
    bodies.sort(key=lambda body: body[0])
    numbers = {body[0]: number for number, body in enumerate(bodies)}
    bounds = {body[0]: body[2] for body in bodies}

    def names_in(tree):
        return [tree[1][1]] if tree[1][0] == "name" else [name for child in tree[2] for name in names_in(child)]

    slots = {place: [binder for binder in row if binder in names_in(trees[place])] for place, _, _, row in bodies}

    def orders(tree, body):
        position, node, inner = tree

        def held(binder):
            return ("given",) if binder == body else ("slot", slots[body].index(binder))

        def made(number):
            place = inner[number][0]
            return [("make", numbers[place], [held(binder) for binder in slots[place]])]

        def of(number):
            return orders(inner[number], body)

        word = node[0]
        if word == "name":
            return [held(node[1])]
        if word == "fun":
            return made(0)
        if word == "which":
            return of(0) + made(1) + made(2) + [node]
        if word == "turns":
            return of(0) + of(2) + made(1) + [("turns",)]
        if word == "let":
            return made(1) + of(0) + [("call",)]
        return [order for number in range(len(inner)) for order in of(number)] + [node]

    return [([bounds[binder] for binder in slots[place]], [] if bound is None else [bound], kinds[place], orders(trees[place], place))
            for place, _, bound, _ in bodies]


def lets(many, used):
    """A program whose innermost let's body has names for so many of the lets around it, 1 and more."""
    body = [node for place in range(used - 1) for node in (("let",), ("name", 1 + 2 * place))]
    return [("let",), ("told", 0)] * (many + 1) + body + [("name", 2 * used - 1)]


def let_of(kind, body):
    """A program that lets something of the first kind in something of the other one; both from counts."""
    return [("let",)] + some(kind) + some(body)


def some(kind):
    """A closed term of a kind without letters, and without sums."""
    if kind[0] == "count":
        return [("told", 0)]
    if kind[0] == "pair":
        return [("both",)] + some(kind[1]) + some(kind[2])
    return [("fun", kind[1])] + some(kind[2])


def counts(kind):
    """The kind with count in the place of all letters."""
    return COUNT if kind[0] == "letter" else (kind[0], counts(kind[1]), counts(kind[2]))


def arms_of(kind, body):
    return [("which",), ("left", COUNT)] + some(kind) + some(body) + some(body)


def steps_of_kind(kind):
    return [("turns", kind), ("told", 0), ("name", 0)] + some(kind)


WIDE_29, WIDE_31 = counts(wide(29)), counts(wide(31))
DEEP_11, DEEP_12 = counts(deep(11)), counts(deep(12))


class Limits(Checks):
    def test_slots(self):
        for many, used in ((1, 1), (59, 59), (60, 60), (70, 60), (60, 3)):
            program = lets(many, used)
            self.assertTrue(is_program(program))
            code = compiled(program)
            self.assertTrue(is_code(code))
            self.assertEqual(max(len(one[0]) for one in code), used)
            self.assertEqual(run_code(code), value_of(program))
        for many, used in ((61, 61), (70, 61), (62, 62)):
            self.assertTrue(is_program(lets(many, used)))
            self.check_error(TooMany, SLOTS, compiled, program=lets(many, used))

    def test_one_name_often_is_one_slot(self):
        program = [("fun", A), ("fun", A)] + [("both",), ("name", 1)] * 8 + [("name", 1)]
        self.assertEqual([len(one[0]) for one in compiled(program)], [0, 0, 1])

    def test_signs(self):
        for kind, body, is_small in ((WIDE_29, WIDE_29, True), (WIDE_31, WIDE_29, False), (WIDE_29, WIDE_31, False)):
            self.of_both(SIGNS, is_small, let_of(kind, body))
            self.of_both(SIGNS, is_small, arms_of(kind, body))
        self.of_both(SIGNS, True, steps_of_kind(WIDE_29))
        self.of_both(SIGNS, False, steps_of_kind(WIDE_31))

    def test_depth(self):
        for kind, body, is_small in ((DEEP_11, DEEP_11, True), (DEEP_12, COUNT, False), (COUNT, DEEP_12, False)):
            self.of_both(DEPTH, is_small, let_of(kind, body))
        # A sum is deeper than what is on its sides.
        for kind, body, is_small in ((DEEP_11, DEEP_11, True), (DEEP_11, DEEP_12, False)):
            self.of_both(DEPTH, is_small, arms_of(kind, body))
        self.of_both(DEPTH, True, steps_of_kind(DEEP_11))
        self.of_both(DEPTH, False, steps_of_kind(DEEP_12))

    def of_both(self, told, is_small, program):
        self.assertTrue(is_program(program))
        if is_small:
            self.assertTrue(is_code(compiled(program)))
        else:
            self.check_error(TooMany, told, compiled, program=program)

    def test_the_arm_of_the_other_side(self):
        # The right arm's kind is too great, whichever arm is run.
        program = [("which",), ("left", WIDE_31), ("told", 0)] + some(WIDE_29) * 2
        self.of_both(SIGNS, False, program)
        program = [("which",), ("right", WIDE_31), ("told", 0)] + some(WIDE_29) * 2
        self.of_both(SIGNS, False, program)

    def test_funs_are_never_too_great(self):
        for kind in (DEEP_11, DEEP_12, fun(WIDE_29, WIDE_29), fun(counts(wide(57)), COUNT), fun(COUNT, counts(wide(57)))):
            self.assertEqual(program_kind(some(kind)), kind)
            self.of_both(None, True, some(kind))

    def test_slots_then_signs_then_depth(self):
        deep_one, wide_one = let_of(DEEP_12, COUNT), let_of(fun(WIDE_29, COUNT), fun(counts(wide(27)), COUNT))
        slots, small = lets(61, 61), let_of(COUNT, COUNT)

        def behind(*programs):
            """A let of each of the programs, in this sequence, in the last one."""
            return [node for program in programs[:-1] for node in [("let",), *program]] + programs[-1]

        self.of_both(None, True, behind(small, small, small))
        self.of_both(DEPTH, False, behind(small, deep_one, small))
        self.of_both(SIGNS, False, behind(small, wide_one, small))
        for one, two in ((deep_one, wide_one), (wide_one, deep_one)):
            self.of_both(SIGNS, False, behind(one, two, small))
            self.of_both(SIGNS, False, behind(one, two))
        for one in (deep_one, wide_one):
            self.of_both(SLOTS, False, behind(one, slots))
            self.of_both(SLOTS, False, behind(slots, one))


class Errors(Checks):
    def test_programs(self):
        wrong = ODD + [[("name", 0)], [("first",), ONE], nexts(301), [("next",), ("fun", A), ("name", 0)]]
        self.check_invalid(InvalidProgram, compiled, "program", wrong, program=None)


if __name__ == "__main__":
    unittest.main()
