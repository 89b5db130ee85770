"""selfprint.printing: [51] to [55], and [4]: printed."""

import functools
import itertools
import random
import unittest

from helper import A, B, COUNT, ODD, Checks, fun, nexts, pair, plain_print, random_programs, shown_programs, sum_of
from selfprint.checked import kinds_at, program_kind
from selfprint.errors import InvalidKind, InvalidMany, InvalidProgram, NotShown, TooMany
from selfprint.forms import form, is_steps, steps_of
from selfprint.kinds import is_shown
from selfprint.printing import is_long, is_printed, long_count, long_programs, print_calls, printed
from selfprint.reader import read_kind, read_program
from selfprint.running import call_count
from selfprint.steps import is_plain
from selfprint.terms import children

AA = fun(A, A)
ONE = ("told", 1)
CALLS = {"what": "calls", "limit": 2000}
NODES = {"what": "nodes", "limit": 300}
PROGRAMS = {"what": "programs", "limit": 400}

# Programs, what they print, and how many calls this makes.
PRINTS = [
    # Counts, pairs and sums.
    ("5", "5", 0),
    ("next 4", "5", 0),
    ("(1, next 1)", "(1, 2)", 0),
    ("left[a] 4", "left[a] 4", 0),
    ("right[a > a] (next 4)", "right[a > a] 5", 0),
    ("turns 3 (x : count * count. (second x, next (first x))) (0, 10)", "(11, 2)", 3),
    ("which (left[a] (fun x : a. x)) (f. (f, 1)) (x. (fun y : a. y, 2))", "(fun x : a. x, 1)", 2),
    # Letters, and funs of them.
    ("fun x : a. x", "fun x : a. x", 1),
    ("fun x : a. fun y : b. (y, x)", "fun x : a. fun y : b. (y, x)", 2),
    ("fun x : a. first (x, x)", "fun x : a. x", 1),
    ("fun x : a. let y = x in y", "fun x : a. x", 2),
    ("fun x : a. turns 4 (y : a. y) x", "fun x : a. x", 5),
    ("fun x : a. which (left[a] x) (y. y) (y. x)", "fun x : a. x", 2),
    ("fun x : a. left[a > a] x", "fun x : a. left[a > a] x", 1),
    ("fun x : a. right[a] (fun y : a. x)", "fun x : a. right[a] (fun y : a. x)", 2),
    # Funs of funs.
    ("fun f : a > a. f", "fun f : a > a. fun x : a. f x", 1),
    ("fun f : a > a. fun x : a. f x", "fun f : a > a. fun x : a. f x", 2),
    ("fun f : a > b > a. f", "fun f : a > b > a. fun x : a. fun y : b. f x y", 1),
    ("fun g : (a > b) > a. g", "fun g : (a > b) > a. fun f : a > b. g (fun x : a. f x)", 1),
    ("fun g : (a > b) > a. fun y : b. g (fun x : a. y)", "fun g : (a > b) > a. fun y : b. g (fun x : a. y)", 3),
    ("fun f : a > a. fun x : a. turns 3 (y : a. f (f y)) x", "fun f : a > a. fun x : a. f (f (f (f (f (f x)))))", 5),
    ("fun h : (((a > a) > a) > a) > a. h",
     "fun h : (((a > a) > a) > a) > a. fun g : ((a > a) > a) > a. h (fun f : (a > a) > a. g (fun s : a > a. f (fun x : a. s x)))",
     1),
    # What comes of a call, and is called again, and parted.
    ("fun f : a > a * b. fun x : a. f x", "fun f : a > a * b. fun x : a. (first (f x), second (f x))", 2),
    ("fun f : a > (b > a). fun x : a. fun y : b. (f x) y", "fun f : a > b > a. fun x : a. fun y : b. f x y", 3),
    ("fun p : a * b. p", "fun p : a * b. (first p, second p)", 1),
    ("fun p : a * (b * a). second p", "fun p : a * (b * a). (first (second p), second (second p))", 1),
    ("fun p : (a > a) * a. (first p) (second p)", "fun p : (a > a) * a. first p (second p)", 1),
    ("fun p : (a > a) * a. p", "fun p : (a > a) * a. (fun x : a. first p x, second p)", 1),
    ("fun f : a * a > a. fun x : a. f (x, f (x, x))", "fun f : a * a > a. fun x : a. f (x, f (x, x))", 2),
    ("fun f : a * a > a. f", "fun f : a * a > a. fun p : a * a. f (first p, second p)", 1),
    ("fun f : (a + b) > a. fun y : b. f (right[a] y)", "fun f : a + b > a. fun y : b. f (right[a] y)", 2),
    ("fun f : count > a. f (next 2)", "fun f : count > a. f 3", 1),
    ("fun f : a > b > a. fun g : a > a. fun x : a. fun y : b. f (g x) y",
     "fun f : a > b > a. fun g : a > a. fun x : a. fun y : b. f (g x) y", 4),
    # Detours of all sorts at once.
    ("fun f : a > a. fun x : a. let g = (f, fun y : a. y) in first g ((second g) x)", "fun f : a > a. fun x : a. f x", 4),
    ("let s = fun n : count. fun f : a > a. fun x : a. turns n (y : a. f y) x in s 2",
     "fun f : a > a. fun x : a. f (f x)", 6),
]


class Printed(Checks):
    def test_each_sort(self):
        for text, wanted, calls in PRINTS:
            program, wanted = read_program(text), read_program(wanted)
            self.check(wanted, printed, program=program)
            self.check(wanted, printed, program=tuple(program))
            self.check(calls, print_calls, program=program)
            self.check(calls, print_calls, program=tuple(program))
            self.check(True, is_long, kind=program_kind(program), value=wanted)

    def test_what_is_printed_is_the_form(self):
        for text, wanted, _ in PRINTS:
            program = read_program(text)
            self.assertEqual(form(program), printed(program))
            self.assertTrue(is_steps(program, printed(program), steps_of(program)))

    def test_plain_long_ones_print_themselves(self):
        for _, wanted, _ in PRINTS:
            program = read_program(wanted)
            self.check(program, printed, program=program)
            self.check(sum(node[0] == "fun" for node in program), print_calls, program=program)

    def test_random_ones(self):
        rng = random.Random(61)
        compared = 0
        for program in shown_programs(rng, 250, 4, 120):
            kind = program_kind(program)
            wanted, calls = plain_print(kind, program)
            if len(wanted) > 300 or len(calls) > 2000:
                continue
            self.assertEqual(printed(program), wanted)
            self.assertEqual(print_calls(program), len(calls))
            self.assertTrue(is_printed(program, wanted))
            self.assertTrue(is_long(kind, wanted))
            self.assertEqual(printed(wanted), wanted)
            self.assertEqual(program_kind(wanted), kind)
            try:
                self.assertEqual(form(program), wanted)
                compared += 1
            except TooMany:
                continue
        self.assertGreater(compared, 150)

    def test_steps_leave_the_print(self):
        rng = random.Random(62)
        for program in shown_programs(rng, 40, 2, 30):
            row, wanted = [], printed(program)
            try:
                row = steps_of(program)
            except TooMany:
                continue
            for many in range(len(row)):
                now = form(program) if many == len(row) else walked(program, row[:many])
                self.assertEqual(printed(now), wanted)

    def test_the_calls_of_the_worth_are_counted_in(self):
        for text, _, calls in PRINTS:
            program = read_program(text)
            self.assertLessEqual(call_count(program), calls)
        program = read_program("let x = 1 in fun y : a. let z = x in y")
        self.check(1, call_count, program=program)
        self.check(3, print_calls, program=program)


def walked(program, row):
    """What a row of steps makes of the program."""
    from selfprint.steps import stepped
    for step in row:
        program = stepped(program, *step)
    return program


def often(many):
    """A plain program of so many nodes, an odd number."""
    return [("fun", AA), ("fun", A)] + [("call",), ("name", 1)] * ((many - 3) // 2) + [("name", 0)]


def often_by_turns(many):
    """A program that prints 2 * many + 3 nodes, with as many turns behind the two calls of its funs."""
    return [("fun", AA), ("fun", A), ("turns", A), ("told", many), ("call",), ("name", 2), ("name", 0), ("name", 0)]


def turned_ahead(calls, program):
    """The program behind so many calls, one at least."""
    return [("let",), ("turns", COUNT), ("told", calls - 1), ("name", 0), ("told", 0)] + program


class Limits(Checks):
    def stopped(self, told, program):
        for function in (printed, print_calls):
            self.check_error(TooMany, told, function, program=program)
        for value in (None, [ONE], program):
            self.check_error(TooMany, told, is_printed, program=program, value=value)

    def test_nodes(self):
        for many in (1, 10, 148):
            self.check(often(2 * many + 3), printed, program=often_by_turns(many))
            self.check(many + 2, print_calls, program=often_by_turns(many))
        self.assertEqual(len(printed([("left", A)] + often_by_turns(148))), 300)
        self.stopped(NODES, [("left", A)] * 2 + often_by_turns(148))
        self.stopped(NODES, often_by_turns(149))
        self.stopped(NODES, often_by_turns(1000))

    def test_nodes_of_each_sort(self):
        # Each of these prints the node of the sort behind just 299, or just 300, other ones.
        for last in ("5", "left[a] 5", "(5, 5)", "fun x : a. x"):
            end = read_program(last)
            for lefts in range(5):
                program = [("both",)] + [("left", A)] * lefts + often_by_turns(146) + end
                if 1 + lefts + 295 + len(end) <= 300:
                    self.assertEqual(printed(program), [("both",)] + [("left", A)] * lefts + often(295) + end)
                else:
                    self.stopped(NODES, program)

    def test_calls(self):
        for calls in (2, 3, 1999, 2000):
            self.check(calls, print_calls, program=turned_fun(calls))
            self.check([("fun", A), ("name", 0)], printed, program=turned_fun(calls))
        self.stopped(CALLS, turned_fun(2001))
        self.stopped(CALLS, turned_fun(5000))

    def test_calls_of_the_worth_alone(self):
        self.check([("told", 0)], printed, program=turned_ahead(2000, [("told", 0)]))
        self.check(2000, print_calls, program=turned_ahead(2000, [("told", 0)]))
        self.stopped(CALLS, turned_ahead(2001, [("told", 0)]))

    def test_calls_at_readers_alone(self):
        # One call begins the fun, and all others are turns in it.
        for many in (1, 1999):
            program = [("fun", A), ("turns", A), ("told", many), ("name", 0), ("name", 0)]
            self.check(many + 1, print_calls, program=program)
            self.check([("fun", A), ("name", 0)], printed, program=program)
        self.stopped(CALLS, [("fun", A), ("turns", A), ("told", 2000), ("name", 0), ("name", 0)])

    def test_new_names_make_no_calls(self):
        # The turns are the program's own, what they call is none of it.
        for many, calls in ((100, 102), (148, 150)):
            self.check(calls, print_calls, program=often_by_turns(many))
        program = often(299)
        self.check(2, print_calls, program=program)

    def test_which_limit_is_met_first(self):
        # At last a fun is printed, then called, then its body is printed.
        first, last = often_by_turns(146), [("fun", A), ("name", 0)]
        great = [("both",), ("left", A), ("left", A)] + first + last
        self.assertEqual([len(printed(great)), print_calls(great)], [300, 149])
        for calls, lefts, told in ((1851, 2, None), (1852, 2, CALLS), (1851, 3, NODES), (1852, 3, CALLS), (1852, 4, NODES)):
            program = turned_ahead(calls, [("both",)] + [("left", A)] * lefts + first + last)
            if told is None:
                self.assertEqual(print_calls(program), 2000)
            else:
                self.stopped(told, program)

    def test_the_worth_comes_ahead_of_all_nodes(self):
        self.stopped(CALLS, turned_ahead(2001, often_by_turns(149)))
        self.stopped(NODES, turned_ahead(1849, often_by_turns(149)))
        # Behind the first fun's call all of the row is printed, but its turns are made ahead.
        self.stopped(CALLS, often_by_turns(1999))
        self.stopped(NODES, often_by_turns(1998))


def turned_fun(calls):
    """A program whose print makes just so many calls, two at least."""
    return turned_ahead(calls - 1, [("fun", A), ("name", 0)])


class IsPrinted(Checks):
    def test_the_printed_form_alone(self):
        for text, wanted, _ in PRINTS:
            program, wanted = read_program(text), read_program(wanted)
            self.check(True, is_printed, program=program, value=wanted)
            self.check(True, is_printed, program=program, value=tuple(wanted))
            self.check(program == wanted, is_printed, program=program, value=program)
            for place in range(len(wanted)):
                self.check(False, is_printed, program=program, value=wanted[:place] + wanted[place + 1:])
                self.check(False, is_printed, program=program, value=wanted[:place] + [list(wanted[place])] + wanted[place + 1:])
            self.check(False, is_printed, program=program, value=wanted + [ONE])

    def test_any_value(self):
        for value in ODD:
            self.check(False, is_printed, program=[("left", A), ONE], value=value)

    def test_true_is_not_one(self):
        self.check(True, is_printed, program=[ONE], value=[ONE])
        self.check(False, is_printed, program=[ONE], value=[("told", True)])
        self.check(False, is_printed, program=[("told", 0)], value=[("told", False)])
        program = [("fun", A), ("fun", A), ("name", 1)]
        self.check(False, is_printed, program=program, value=[("fun", A), ("fun", A), ("name", True)])
        self.check(False, is_printed, program=program, value=[("fun", A), ("fun", ("letter", False)), ("name", 1)])


class Errors(Checks):
    def test_programs(self):
        wrong = ODD + [[("name", 0)], [("first",), ONE], nexts(301), [("next",), ("fun", A), ("name", 0)]]
        self.check_invalid(InvalidProgram, printed, "program", wrong, program=None)
        self.check_invalid(InvalidProgram, print_calls, "program", wrong, program=None)
        self.check_invalid(InvalidProgram, is_printed, "program", wrong, program=None, value=[ONE])

    def test_not_shown(self):
        for text in ("fun n : count. n", "fun s : a + b. s", "fun s : a + b. 1", "(1, fun n : count. 1)", "fun x : a. fun n : count. x",
                     "left[count > a] 1", "right[count > a] 1", "fun f : a > a + a. 1", "fun p : a * count. 1",
                     "fun f : (count > a) > a. 1", "fun f : (((count > a) > a) > a) > a. 1"):
            program = read_program(text)
            for function in (printed, print_calls):
                self.check_error(NotShown, {}, function, program=program)
            for value in (program, None):
                self.check_error(NotShown, {}, is_printed, program=program, value=value)

    def test_not_shown_ahead_of_too_many(self):
        program = turned_ahead(2001, [("fun", COUNT), ONE])
        for function in (printed, print_calls):
            self.check_error(NotShown, {}, function, program=program)
            self.check_error(TooMany, CALLS, function, program=turned_ahead(2001, [ONE]))
        self.check_error(NotShown, {}, is_printed, program=program, value=None)


# [51] told once more, and all programs of few nodes.


def is_plainly_long(kind, program):
    """Whether a program of this kind is plain long."""
    kinds = kinds_at([], program)
    under = [children(program, place)[0] for place, node in enumerate(program) if node[0] in ("call", "first", "second")]
    for place, node in enumerate(program):
        if node[0] in ("which", "turns", "let", "next"):
            return False
        if place in under:
            wanted = ("name", "call", "first", "second")
        elif kinds[place][0] == "letter":
            wanted = ("name", "call", "first", "second")
        else:
            wanted = {"fun": ("fun",), "pair": ("both",), "sum": ("left", "right"), "count": ("told",)}[kinds[place][0]]
        if node[0] not in wanted:
            return False
    return kinds[0] == kind


def within(kind):
    """All kinds within a kind, each once, itself too."""
    found = [kind] + [one for inner in kind[1:] if isinstance(inner, tuple) for one in within(inner)]
    return list(dict.fromkeys(found))


def slow_longs(kind, nodes):
    """All plain long programs of just so many nodes, with 0 as the only count: of all that fit those that are."""
    kinds = within(kind)

    @functools.cache
    def fitting(row, size):
        """All tuples of a term of just so many nodes and its kind, one of these, with names of the kinds in the row."""
        if size == 1:
            return [((("name", place),), known) for place, known in enumerate(row)] + [((("told", 0),), COUNT)]
        found = [((("fun", bound),) + body, fun(bound, told)) for bound in kinds for body, told in fitting((bound,) + row, size - 1)]
        for term, told in fitting(row, size - 1):
            if told[0] == "pair":
                found += [((("first",),) + term, told[1]), ((("second",),) + term, told[2])]
            found += [((("left", other),) + term, sum_of(told, other)) for other in kinds]
            found += [((("right", other),) + term, sum_of(other, told)) for other in kinds]
        for left in range(1, size - 1):
            for one, told in fitting(row, left):
                for two, other in fitting(row, size - 1 - left):
                    found.append(((("both",),) + one + two, pair(told, other)))
                    if told[0] == "fun" and told[1] == other:
                        found.append(((("call",),) + one + two, told[2]))
        return [(term, told) for term, told in found if told in kinds]

    return sorted(list(term) for term, told in fitting((), nodes) if told == kind and is_plainly_long(kind, list(term)))


class IsLong(Checks):
    def test_plain_programs_of_shown_kinds(self):
        rng = random.Random(63)
        met = {True: 0, False: 0}
        for program in shown_programs(rng, 150, 2, 60):
            kind = program_kind(program)
            for value in (program, printed(program)):
                wanted = is_plainly_long(kind, value)
                met[wanted] += 1
                self.assertIs(is_long(kind, value), wanted)
                self.assertIs(is_plain(value), wanted)
        self.assertGreater(min(met.values()), 100)

    def test_each_node_by_its_kind(self):
        for text, wanted in (
                ("fun f : a > a. f", False), ("fun f : a > a. fun x : a. f x", True), ("fun p : a * a. p", False),
                ("fun p : a * a. (first p, second p)", True), ("fun f : a > a * a. fun x : a. f x", False),
                ("fun f : a > a > a. fun x : a. f x", False), ("fun g : (a > a) > a. fun f : a > a. g f", False),
                ("fun g : (a > a) > a. fun f : a > a. g (fun x : a. f x)", True), ("fun f : a * a > a. fun p : a * a. f p", False),
                ("fun f : a * a > a. fun p : a * a. f (first p, second p)", True), ("next 1", False), ("2", True),
                ("fun x : a. first (x, x)", False), ("fun x : a. (fun y : a. y) x", False), ("fun x : a. let y = x in y", False),
                ("fun x : a. turns 1 (y : a. y) x", False), ("fun x : a. which (left[a] x) (y. y) (y. y)", False),
                ("fun f : count > a. f 3", True), ("fun f : count > a. f (next 2)", False), ("left[a] (next 2)", False),
                ("fun p : (a > a) * a. first p (second p)", True), ("fun f : a > a > a. fun x : a. f x (f x x)", True)):
            program = read_program(text)
            self.check(wanted, is_long, kind=program_kind(program), value=program)
            self.check(wanted, is_long, kind=program_kind(program), value=tuple(program))

    def test_of_another_kind(self):
        program = read_program("fun x : a. x")
        for text, wanted in (("a > a", True), ("b > b", False), ("a", False), ("count", False), ("a > a > a", False)):
            self.check(wanted, is_long, kind=read_kind(text), value=program)

    def test_any_value(self):
        for kind in (AA, COUNT, pair(COUNT, COUNT)):
            for value in ODD + [nexts(2), [("name", 0)], [("told", True)]]:
                self.check(False, is_long, kind=kind, value=value)

    def test_open_names(self):
        self.check(False, is_long, kind=A, value=[("name", 0)])
        self.check(False, is_long, kind=AA, value=[("fun", A), ("name", 1)])


COUNTED = ["a", "a > a", "a > a > a", "(a > a) > a > a", "a > b > a", "a * a > a", "a * b > b * a", "((a > a) > a) > a",
           "(a > a) > a", "a + b", "(a > a) + (a > a > a)", "a > a * a", "(a > a * a) > a > a", "((a > b) > b) > a > b", "b > a"]


class LongCounts(Checks):
    def test_by_a_slow_count(self):
        for text in COUNTED:
            kind = read_kind(text)
            slow = []
            for nodes in range(1, 8):
                found = slow_longs(kind, nodes)
                self.check(len(found), long_count, kind=kind, many=nodes)
                slow += found
                self.check(sorted(slow), long_programs, kind=kind, many=nodes)

    def test_with_counts(self):
        for text in ("count", "count * count", "count + a", "a > count", "(count > a) > a", "(count > a) > b > a * count"):
            kind = read_kind(text)
            for nodes in range(1, 7):
                # By how many counts it tells, a program stands for so many more.
                found = slow_longs(kind, nodes)
                many = sum(1000001 ** sum(node == ("told", 0) for node in term) for term in found)
                self.check(many, long_count, kind=kind, many=nodes)
        self.check(1000001, long_count, kind=COUNT, many=1)
        self.check(1000001 ** 2, long_count, kind=pair(COUNT, COUNT), many=3)
        self.check(1000001 ** 2, long_count, kind=sum_of(pair(COUNT, COUNT), pair(pair(COUNT, A), B)), many=4)
        self.check(1000001 ** 6, long_count, kind=read_kind("count * count * count * count * count * count"), many=11)

    def test_long_ones(self):
        kind = fun(AA, AA)
        self.check([0, 0, 1, 0, 1, 0, 1, 0, 1, 0, 1, 0], counts, kind=kind)
        self.check([often(many) for many in (11, 9, 7, 5, 3)], long_programs, kind=kind, many=12)
        # Of a > a > a there are two names, and a binary tree for each number of calls.
        kind = fun(fun(A, fun(A, A)), AA)
        self.check([0, 0, 1, 0, 0, 0, 1, 0, 0, 0, 2, 0], counts, kind=kind)
        self.check([0, 1, 0, 0, 0, 0, 0, 0, 0, 0, 0, 0], counts, kind=AA)
        self.check([0] * 12, counts, kind=A)
        self.check([0, 0, 2] + [0] * 9, counts, kind=fun(A, AA))

    def test_all_are_long_and_sorted(self):
        for text in COUNTED + ["(a > a) * (a > a) > a > a", "((a > a) > a) > (a > a) > a > a"]:
            kind = read_kind(text)
            for many in range(1, 13):
                try:
                    found = long_programs(kind, many)
                except TooMany:
                    break
                self.assertEqual(found, sorted(found))
                self.assertEqual(len(found), sum(counts(kind)[:many]))
                self.assertTrue(all(one < two for one, two in itertools.pairwise(found)))
                for program in found:
                    self.assertTrue(is_long(kind, program))
                    self.assertLessEqual(len(program), many)
                    self.assertEqual(printed(program), program)

    def test_four_hundred_programs_and_more(self):
        met = []
        for text in WIDE:
            kind = read_kind(text)
            total = 0
            for many in range(1, 13):
                total += long_count(kind, many)
                if total <= 400:
                    self.assertEqual(len(long_programs(kind, many)), total)
                else:
                    self.check_error(TooMany, PROGRAMS, long_programs, kind=kind, many=many)
            met.append(total)
        self.assertEqual(met, [400, 400, 401, 405])

    def test_counts_are_too_many(self):
        for kind in (COUNT, pair(COUNT, COUNT), sum_of(A, COUNT), fun(A, COUNT)):
            many = 1 + 2 * (kind[0] == "pair") + (kind[0] in ("sum", "fun"))
            self.check_error(TooMany, PROGRAMS, long_programs, kind=kind, many=many)
            self.check_error(TooMany, PROGRAMS, long_programs, kind=kind, many=12)
            if many > 1:
                self.check([], long_programs, kind=kind, many=many - 1)
        # No letter can be told, so there is none of these.
        for text in ("count * a", "a * count", "(count * a) * count", "(a > count) * b"):
            self.check([], long_programs, kind=read_kind(text), many=12)
            self.check([0] * 12, counts, kind=read_kind(text))

    def test_new_lists(self):
        kind = fun(AA, AA)
        found = long_programs(kind, 5)
        found[0].append("changed")
        found.clear()
        self.assertEqual(long_programs(kind, 5), [often(5), often(3)])


# Kinds of just 400, 400, 401 and 405 plain long programs of at most 12 nodes.
FIVE = "a > a > a > a > a > "
WIDE = ["a > a > a > a > (a > a * a) * a * a", FIVE + "(a * a + a * a * a) + (a + a) * (a * a)",
        FIVE + "((a * a + (b > b)) + a * a * a) + (a + a) * (a * a)", FIVE + "((a * a + a) + a * a * a) + (a + a) * (a * a)"]


def counts(kind):
    return [long_count(kind, many) for many in range(1, 13)]


class LongErrors(Checks):
    def test_kinds(self):
        wrong = [value for value in ODD if value != COUNT]
        self.check_invalid(InvalidKind, is_long, "kind", wrong, kind=None, value=[ONE])
        self.check_invalid(InvalidKind, long_count, "kind", wrong, kind=None, many=1)
        self.check_invalid(InvalidKind, long_programs, "kind", wrong, kind=None, many=1)

    def test_manies(self):
        wrong = [value for value in ODD if isinstance(value, bool) or not isinstance(value, int)] + [0, -1, 13, 300, 10 ** 30]
        self.check_invalid(InvalidMany, long_count, "many", wrong, kind=COUNT, many=1)
        self.check_invalid(InvalidMany, long_programs, "many", wrong, kind=AA, many=1)

    def test_not_shown(self):
        for kind in (fun(COUNT, A), fun(sum_of(A, A), A), pair(fun(COUNT, COUNT), A), fun(fun(fun(COUNT, A), A), A)):
            self.check_error(NotShown, {}, is_long, kind=kind, value=None)
            self.check_error(NotShown, {}, long_count, kind=kind, many=1)
            self.check_error(NotShown, {}, long_programs, kind=kind, many=12)

    def test_the_first_error_is_told(self):
        for function in (long_count, long_programs):
            self.check_error(InvalidKind, {"value": 0}, function, kind=0, many=0)
            self.check_error(InvalidMany, {"value": 0}, function, kind=fun(COUNT, A), many=0)
            self.check_error(NotShown, {}, function, kind=fun(COUNT, A), many=1)


if __name__ == "__main__":
    unittest.main()
