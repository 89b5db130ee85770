"""selfprint.steps: [31] to [34]."""

import random
import unittest

from helper import A, B, COUNT, ODD, Checks, fun, nexts, pair, plainly_lifted, plainly_put_in, random_kind, random_programs
from helper import sum_of, term_of, tree_of
from selfprint.checked import is_program, kinds_at, program_kind
from selfprint.errors import InvalidPosition, InvalidProgram, InvalidRule, NoStep, TooMany
from selfprint.kinds import is_shown
from selfprint.nodes import BINDS
from selfprint.reader import read_program
from selfprint.steps import first_steps, is_plain, stepped
from selfprint.terms import children, part

RULES = ["call", "first", "second", "which", "turns", "next", "let", "long"]
ONE = ("told", 1)


class EachRule(Checks):
    """Each rule, by texts: what the step makes at the node, and the other first steps."""

    def step(self, text, position, rule, wanted):
        program = read_program(text)
        self.assertIn((position, rule), first_steps(program))
        self.check(read_program(wanted), stepped, program=program, position=position, rule=rule)
        self.check(read_program(wanted), stepped, program=tuple(program), position=position, rule=rule)

    def no_step(self, text, position, *rules):
        program = read_program(text)
        for rule in rules:
            self.assertNotIn((position, rule), first_steps(program))
            self.check_error(NoStep, {}, stepped, program=program, position=position, rule=rule)

    def test_call(self):
        self.step("(fun x : count. next x) 4", 0, "call", "next 4")
        self.step("(fun x : count. (x, x)) 4", 0, "call", "(4, 4)")
        self.step("(fun x : count. 3) 4", 0, "call", "3")
        self.step("fun y : a. (fun x : a. fun z : b. (x, (y, z))) y", 1, "call", "fun y : a. fun z : b. (y, (y, z))")
        self.step("fun y : a. fun w : b. (fun f : b > a. fun z : b. f z) (fun v : b. y)", 2, "call",
                  "fun y : a. fun w : b. fun z : b. (fun v : b. y) z")
        self.no_step("fun f : a > a. fun x : a. f x", 2, "call", "first", "which", "let", "next", "turns", "second")
        self.no_step("(let x = 1 in fun y : count. y) 2", 0, "call")

    def test_first_and_second(self):
        self.step("first (1, 2)", 0, "first", "1")
        self.step("second (1, 2)", 0, "second", "2")
        self.step("next (second ((1, 2), next 3))", 1, "second", "next (next 3)")
        self.step("fun x : a. fun y : b. first ((y, x), x)", 2, "first", "fun x : a. fun y : b. (y, x)")
        self.no_step("first (1, 2)", 0, "second", "long", "call")
        self.no_step("fun p : a * b. first p", 1, "first", "second", "long")
        self.no_step("first (let x = 1 in (x, x))", 0, "first")

    def test_which(self):
        self.step("which (left[a] 3) (x. (x, x)) (y. (1, 1))", 0, "which", "(3, 3)")
        self.step("which (right[a] 3) (x. (1, 1)) (y. (y, y))", 0, "which", "(3, 3)")
        self.step("fun z : a. fun w : b. which (left[count] z) (x. (x, (w, z))) (y. (z, (w, z)))", 2, "which",
                  "fun z : a. fun w : b. (z, (w, z))")
        self.step("fun z : a. which (right[b] z) (x. fun w : b. z) (y. fun w : b. y)", 1, "which",
                  "fun z : a. fun w : b. z")
        self.no_step("fun s : a + a. which s (x. x) (y. y)", 1, "which", "long", "let")
        self.no_step("which (let x = 1 in left[a] x) (x. 1) (y. 2)", 0, "which")

    def test_turns(self):
        self.step("turns 0 (x : count. next x) 5", 0, "turns", "5")
        self.step("turns 1 (x : count. next x) 5", 0, "turns", "next (turns 0 (x : count. next x) 5)")
        self.step("turns 3 (x : count * count. (second x, first x)) (1, 2)", 0, "turns",
                  "(second (turns 2 (x : count * count. (second x, first x)) (1, 2)),"
                  " first (turns 2 (x : count * count. (second x, first x)) (1, 2)))")
        self.step("fun f : a > a. fun y : a. turns 1000000 (x : a. f x) y", 2, "turns",
                  "fun f : a > a. fun y : a. f (turns 999999 (x : a. f x) y)")
        self.step("fun f : a > a. fun y : a > a. turns 2 (x : a > a. fun z : a. f (x z)) y", 2, "turns",
                  "fun f : a > a. fun y : a > a. fun z : a. f ((turns 1 (x : a > a. fun z : a. f (x z)) y) z)")
        self.no_step("fun n : count. turns n (x : count. x) 0", 1, "turns", "next", "long")
        self.no_step("turns (next 1) (x : count. x) 0", 0, "turns")

    def test_next(self):
        self.step("next 0", 0, "next", "1")
        self.step("next 999999", 0, "next", "1000000")
        self.step("next 1000000", 0, "next", "1000000")
        self.step("next (next 4)", 1, "next", "next 5")
        self.no_step("next (next 4)", 0, "next")
        self.no_step("5", 0, *RULES)

    def test_let(self):
        self.step("let x = next 1 in (x, x)", 0, "let", "(next 1, next 1)")
        self.step("let x = 1 in 2", 0, "let", "2")
        self.step("fun y : a. let x = y in fun z : b. (x, z)", 1, "let", "fun y : a. fun z : b. (y, z)")
        self.step("let x = let y = 1 in y in x", 0, "let", "let y = 1 in y")
        self.step("let x = let y = 1 in y in x", 1, "let", "let x = 1 in x")

    def test_long(self):
        self.step("fun f : a > b. f", 1, "long", "fun f : a > b. fun x : a. f x")
        self.step("fun p : a * b. p", 1, "long", "fun p : a * b. (first p, second p)")
        self.step("fun f : a > b * c. fun x : a. f x", 2, "long",
                  "fun f : a > b * c. fun x : a. (first (f x), second (f x))")
        self.step("fun g : (a > a) > b. fun f : a > a. g f", 4, "long", "fun g : (a > a) > b. fun f : a > a. g (fun x : a. f x)")
        self.step("fun f : (a > a) * b. first f", 1, "long", "fun f : (a > a) * b. fun x : a. (first f) x")
        self.step("fun f : a > b > a. fun x : a. f x", 2, "long", "fun f : a > b > a. fun x : a. fun y : b. f x y")

    def test_long_leaves_alone_what_is_held(self):
        self.no_step("fun f : a > b. fun x : a. f x", 3, "long")
        self.no_step("fun p : a * b. first p", 2, "long")
        self.no_step("fun p : a * b. second p", 2, "long")
        self.no_step("fun f : a > a > a. fun x : a. f x x", 3, "long")
        self.no_step("fun p : (a * b) * c. second (first p)", 2, "long")
        self.no_step("first (let x = 1 in (x, x))", 1, "long")
        self.no_step("(let x = 1 in fun y : count. x) 2", 1, "long")
        self.no_step("fun f : a > b. fun x : a. f x", 0, "long")
        self.no_step("(1, 2)", 0, "long")
        self.no_step("next 1", 0, "long")
        self.no_step("fun s : a + b. s", 1, "long")
        self.no_step("fun x : a. x", 1, "long")
        self.no_step("fun x : count. x", 1, "long")

    def test_only_first_children_are_held(self):
        self.step("fun f : (a > a) > a. fun x : a > a. f x", 4, "long", "fun f : (a > a) > a. fun x : a > a. f (fun y : a. x y)")
        self.step("fun f : a > a. (f, 1)", 2, "long", "fun f : a > a. (fun x : a. f x, 1)")
        self.step("fun f : a > a. left[b] f", 2, "long", "fun f : a > a. left[b] (fun x : a. f x)")
        self.step("fun f : a > a. let g = f in 1", 2, "long", "fun f : a > a. let g = fun x : a. f x in 1")
        self.step("fun f : a > a. turns 1 (g : a > a. g) f", 3, "long",
                  "fun f : a > a. turns 1 (g : a > a. fun x : a. g x) f")
        self.step("fun f : a > a. which (left[b] 1) (x. f) (y. f)", 4, "long",
                  "fun f : a > a. which (left[b] 1) (x. fun z : a. f z) (y. f)")

    def test_what_it_made_held_is_not_made_long_once_more(self):
        for text, position in (("fun f : a > b. f", 1), ("fun p : a * b. p", 1)):
            program = stepped(read_program(text), position, "long")
            self.check([], first_steps, program=program)

    def test_two_rules_at_one_node(self):
        program = read_program("fun y : a > a. (fun x : a > a. x) y")
        self.check([(1, "call"), (1, "long"), (3, "long"), (4, "long")], first_steps, program=program)
        self.step("fun y : a > a. (fun x : a > a. x) y", 1, "long", "fun y : a > a. fun z : a. ((fun x : a > a. x) y) z")
        for text, rule in (("first ((1, 2), 3)", "first"), ("second (3, (1, 2))", "second"), ("let x = 1 in (x, x)", "let"),
                           ("which (left[a] 1) (x. (x, x)) (y. (1, 1))", "which"),
                           ("turns 0 (x : count * count. (1, 1)) (1, 1)", "turns")):
            found = first_steps(read_program(text))
            self.assertEqual(found[:2], sorted([(0, rule), (0, "long")]))
        self.step("first ((1, 2), 3)", 0, "long", "(first (first ((1, 2), 3)), second (first ((1, 2), 3)))")

    def test_deeper(self):
        self.step("fun x : a. (1, let y = x in next (first (2, y)))", 6, "first", "fun x : a. (1, let y = x in next 2)")
        self.step("fun x : a. fun s : a + a. which s (y. (fun z : a. (z, (x, y))) y) (y. (x, (x, x)))", 4, "call",
                  "fun x : a. fun s : a + a. which s (y. (y, (x, y))) (y. (x, (x, x)))")
        self.step("fun x : a. turns 2 (y : a. let z = x in y) x", 3, "let", "fun x : a. turns 2 (y : a. y) x")


# The rules told once more, of trees: what stands in the second column of the table.


def plain_step(program, position, rule):
    """What the rule makes at the position, or None; as the table tells it, child by child."""
    kind = kinds_at([], program)[position]
    node = program[position]
    inner = [part(program, place) for place in children(program, position)]
    made = plainly_long(program, position, kind) if rule == "long" else plainly_taken(rule, node, inner)
    end = position + len(part(program, position))
    return None if made is None else program[:position] + made + program[end:]


def plainly_long(program, position, kind):
    holders = [place for place, node in enumerate(program) if node[0] in ("call", "first", "second")]
    held = [children(program, place)[0] for place in holders]
    if position in held or program[position][0] in ("fun", "both"):
        return None
    it = part(program, position)
    if kind[0] == "fun":
        return [("fun", kind[1]), ("call",), *plainly_lifted(it, 1), ("name", 0)]
    return [("both",), ("first",), *it, ("second",), *it] if kind[0] == "pair" else None


def plainly_taken(rule, node, inner):
    if rule != node[0]:
        return None
    first = tree_of(inner[0])
    word, below = first[0][0], [term_of(child) for child in first[1]]
    if rule == "let":
        return plainly_put_in(inner[1], inner[0])
    if (rule, word) == ("call", "fun"):
        return plainly_put_in(below[0], inner[1])
    if (rule, word) in (("first", "both"), ("second", "both")):
        return below[("first", "second").index(rule)]
    if (rule, word) in (("which", "left"), ("which", "right")):
        return plainly_put_in(inner[1 + ("left", "right").index(word)], below[0])
    if (rule, word) == ("next", "told"):
        return [("told", first[0][1] + (first[0][1] < 1000000))]
    if (rule, word) == ("turns", "told"):
        told = first[0][1]
        return plainly_put_in(inner[1], [node, ("told", told - 1), *inner[1], *inner[2]]) if told else inner[2]
    return None


def plain_form(rng, program, most):
    """The program to which random steps lead; None if it grows too great or goes too far."""
    for _ in range(most):
        found = first_steps(program)
        if not found:
            return program
        try:
            program = stepped(program, *rng.choice(found))
        except TooMany:
            return None
    return None


class Facts(Checks):
    def test_as_the_table_says(self):
        rng = random.Random(19)
        met = {rule: 0 for rule in RULES}
        for program in random_programs(rng, 250, 3, 60):
            wanted = []
            for position, node in enumerate(program):
                for rule in ("long", node[0]):
                    made = plain_step(program, position, rule) if rule in RULES and BINDS[node[0]] or rule == "long" else None
                    if made is not None:
                        wanted.append((position, rule))
                        met[rule] += 1
                        if len(made) <= 300:
                            self.assertEqual(stepped(program, position, rule), made)
            self.assertEqual(first_steps(program), sorted(wanted))
            self.assertEqual(is_plain(program), wanted == [])
        self.assertGreater(min(met.values()), 10, met)

    def test_no_step_but_the_first_ones(self):
        rng = random.Random(20)
        for program in random_programs(rng, 20, 3, 30):
            found = first_steps(program)
            for position in range(len(program)):
                for rule in RULES:
                    if (position, rule) not in found:
                        self.check_error(NoStep, {}, stepped, program=program, position=position, rule=rule)

    def test_a_step_leads_to_a_program_of_the_same_kind(self):
        rng = random.Random(21)
        for program in random_programs(rng, 60, 3, 60):
            for position, rule in first_steps(program):
                try:
                    made = stepped(program, position, rule)
                except TooMany:
                    continue
                self.assertTrue(is_program(made))
                self.assertEqual(program_kind(made), program_kind(program))

    def test_all_rows_of_steps_end_at_one_program(self):
        rng = random.Random(22)
        compared = 0
        for program in random_programs(rng, 120, 2, 30):
            found = [plain_form(rng, program, 80) for _ in range(3)]
            found = [form for form in found if form is not None]
            compared += len(found) > 1
            for form in found:
                self.assertEqual(form, found[0])
                self.assertTrue(is_plain(form))
                self.assertEqual(program_kind(form), program_kind(program))
                if is_shown(program_kind(form)):
                    self.assertTrue(is_plainly_long(form))
        self.assertGreater(compared, 60)

    def test_two_steps_can_be_led_together(self):
        program = read_program("(fun x : count. (x, x)) (next 1)")
        one, two = stepped(program, 0, "call"), stepped(program, 5, "next")
        self.assertNotEqual(one, two)
        rng = random.Random(23)
        self.assertEqual(plain_form(rng, one, 20), plain_form(rng, two, 20))
        self.assertEqual(plain_form(rng, one, 20), read_program("(2, 2)"))


def is_plainly_long(program):
    """Whether each node of a plain program is as [34] says."""
    kinds = kinds_at([], program)
    held = [children(program, place)[0] for place, node in enumerate(program) if node[0] in ("call", "first", "second")]
    wanted = {"fun": ("fun",), "pair": ("both",), "sum": ("left", "right"), "count": ("told",),
              "letter": ("name", "call", "first", "second")}
    row = ("name", "call", "first", "second")
    return all(node[0] in (row if place in held else wanted[kind[0]])
               for place, (node, kind) in enumerate(zip(program, kinds)))


class FirstSteps(Checks):
    def test_sorted(self):
        text = "let p = ((fun x : count. x) 1, next 2) in turns (first p) (x : count * count. p) p"
        program = read_program(text)
        found = first_steps(program)
        self.assertEqual(found, sorted(found))
        self.assertEqual(len(found), len(set(found)))
        self.check([(0, "let"), (0, "long"), (2, "call"), (6, "next"), (8, "long"), (11, "long"), (12, "long")],
                   first_steps, program=program)

    def test_a_step_that_a_limit_stops_is_a_first_step_too(self):
        great = great_let(100, 3)
        self.assertIn((0, "let"), first_steps(great))
        self.check_error(TooMany, {"what": "nodes", "limit": 300}, stepped, program=great, position=0, rule="let")

    def test_plain(self):
        for text in ("5", "fun x : a. x", "(1, left[a] 2)", "fun f : a > a. fun x : a. f (f x)", "fun s : a. right[a > b] 1",
                     "fun p : a * b. (second p, first p)", "fun s : a + b. s"):
            self.check([], first_steps, program=read_program(text))
            self.check(True, is_plain, program=read_program(text))
        for text in ("next 1", "fun f : a > a. f", "fun p : a * b. p", "let x = 1 in x", "first (1, 2)", "(1, next 2)"):
            self.check(False, is_plain, program=read_program(text))

    def test_plain_programs_of_kinds_that_are_not_shown(self):
        for text in ("fun s : a + a. which s (x. x) (y. y)", "fun n : count. next n",
                     "fun n : count. fun z : a. turns n (x : a. x) z"):
            self.check(True, is_plain, program=read_program(text))


def great_let(size, times):
    """A let that puts something of so many nodes in, so often."""
    body = [("both",), ("name", 0)] * (times - 1) + [("name", 0)]
    return [("let",)] + nexts(size) + body


def great_call(size, times):
    """A call of a fun that wants something of so many nodes, so often."""
    return [("call",), ("fun", COUNT)] + great_let(1, times)[2:] + nexts(size)


class Limits(Checks):
    def step(self, many, program, position, rule):
        """The step makes a program of so many nodes, or is stopped by the limit."""
        if many <= 300:
            made = stepped(program, position, rule)
            self.assertEqual((len(made), is_program(made)), (many, True))
        else:
            told = {"what": "nodes", "limit": 300}
            self.check_error(TooMany, told, stepped, program=program, position=position, rule=rule)

    def test_let(self):
        for around in (0, 1, 2):
            program = [("left", A)] * around + great_let(149, 2)
            self.step(299 + around, program, around, "let")

    def test_call(self):
        for around in (0, 1, 2):
            program = [("left", A)] * around + great_call(149, 2)
            self.step(299 + around, program, around, "call")

    def test_turns(self):
        # A step of two nodes and a start of n become n + 5 nodes.
        for size in (294, 295, 296):
            program = [("turns", COUNT), ONE, ("next",), ("name", 0)] + nexts(size)
            self.step(size + 5, program, 0, "turns")

    def test_long_of_functions(self):
        # In the place of n nodes come n + 3.
        for size in (296, 297, 298):
            program = [("let",)] + nexts(size - 3) + [("fun", A), ("name", 0)]
            self.assertEqual(len(program), size)
            self.step(size + 3, program, 0, "long")

    def test_long_of_pairs(self):
        # In the place of n nodes come 2 n + 3.
        for size, around in ((148, 0), (148, 1), (149, 0), (148, 2)):
            program = [("left", A)] * around + [("first",), ("both",), ("both",), *nexts(size - 5), ONE, ONE]
            self.assertEqual(len(program), size + around)
            self.step(2 * size + 3 + around, program, around, "long")

    def test_no_step_ahead_of_too_many(self):
        great = great_let(100, 3)
        self.check_error(NoStep, {}, stepped, program=great, position=0, rule="call")


class Errors(Checks):
    def test_programs(self):
        wrong = ODD + [[("name", 0)], [("first",), ONE], nexts(301), [("next",), ("fun", A), ("name", 0)]]
        self.check_invalid(InvalidProgram, first_steps, "program", wrong, program=None)
        self.check_invalid(InvalidProgram, is_plain, "program", wrong, program=None)
        self.check_invalid(InvalidProgram, stepped, "program", wrong, program=None, position=0, rule="let")

    def test_positions(self):
        program = nexts(3)
        wrong = [3, -1, 300, 10 ** 30, True, False, None, "0", (0,), [0], {}]
        self.check_invalid(InvalidPosition, stepped, "position", wrong, program=program, position=0, rule="next")
        self.check(nexts(2, ONE), stepped, program=program, position=1, rule="next")
        self.check_error(NoStep, {}, stepped, program=program, position=2, rule="next")

    def test_rules(self):
        wrong = ["", "jump", "Call", "fun", "both", "told", "name", "left", "next ", None, True, 0, ("next",), ["next"], b"next", {}]
        self.check_invalid(InvalidRule, stepped, "rule", wrong, program=nexts(2), position=0, rule=None)

    def test_the_first_error_is_told(self):
        self.check_error(InvalidProgram, {"value": 0}, stepped, program=0, position=-1, rule="")
        self.check_error(InvalidPosition, {"value": -1}, stepped, program=nexts(2), position=-1, rule="")
        self.check_error(InvalidRule, {"value": ""}, stepped, program=nexts(2), position=1, rule="")


if __name__ == "__main__":
    unittest.main()
