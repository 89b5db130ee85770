"""selfprint.claims: [93] and [94]."""

import random
import unittest

from helper import (
    A, ALIKE, COUNT, ODD, PARTINGS, Checks, changed_code, counts_kind, deep, fun, inner_lists, nexts, same, shown_pairs, turned, wide)
from selfprint.callers import test_of as found_test
from selfprint.checked import program_kind
from selfprint.claims import contrary, is_claim, is_paper_of, is_true, paper_of, words
from selfprint.codes import code_kind
from selfprint.compiler import compiled
from selfprint.decompiler import decompiled
from selfprint.errors import InvalidClaim, TooMany
from selfprint.forms import form, steps_of
from selfprint.left import called, left_of
from selfprint.parting import is_test
from selfprint.printing import printed
from selfprint.reader import read_program
from selfprint.steps import first_steps, is_plain

AA = fun(A, A)
ONE, TWO, THREE = [("told", 1)], [("told", 2)], [("told", 3)]
NEXT = [("next",), ("told", 1)]
MORE = [("fun", COUNT), ("next",), ("name", 0)]
NEAR, FAR = read_program("fun x : a. fun y : a. x"), read_program("fun x : a. fun y : a. y")
EIGHT = [([], [], COUNT, [("told", 8)])]
POWER = read_program("fun n : count. fun f : a > a. fun x : a. turns n (y : a. f y) x")
NODES = {"what": "nodes", "limit": 300}
CALLS = {"what": "calls", "limit": 2000}
STEPS = {"what": "steps", "limit": 200}
SIGNS = {"what": "signs", "limit": 60}
DEPTH = {"what": "depth", "limit": 12}
WORDS = [("alike", "unlike"), ("prints", "misprints"), ("plain", "steps"), ("leaves", "leavesnot")]


def power(times):
    return [("call",)] + POWER + [("told", times)]


# Claims by their first words, and whether they are true.
CLAIMS = [
    (("alike", NEXT, TWO), True), (("alike", ONE, ONE), True), (("alike", ONE, TWO), False), (("alike", NEAR, FAR), False),
    (("alike", NEAR, [("let",), ("told", 3)] + NEAR), True), (("alike", power(2), read_program("fun f : a > a. fun x : a. f (f x)")), True),
    (("prints", EIGHT, [("told", 8)]), True), (("prints", EIGHT, ONE), False), (("prints", compiled(NEAR), NEAR), True), (("prints", compiled(NEAR), FAR), False),
    (("prints", compiled(power(3)), power(3)), True), (("prints", compiled(power(3)), power(2)), False), (("prints", compiled(NEXT), NEXT), True),
    (("plain", ONE), True), (("plain", NEXT), False), (("plain", NEAR), True), (("plain", MORE), True), (("plain", power(1)), False),
    (("plain", read_program("fun f : a > a. f")), False), (("plain", read_program("fun s : a + b. which s (x. 1) (y. 2)")), True),
    (("leaves", MORE, [TWO], THREE), True), (("leaves", MORE, [TWO], TWO), False), (("leaves", NEAR, [], NEAR), True), (("leaves", NEAR, [], FAR), False),
    (("leaves", POWER, [TWO], power(2)), True), (("leaves", POWER, [TWO], power(3)), False),
    (("leaves", POWER, [TWO, [("fun", A), ("name", 0)]], [("fun", A), ("name", 0)]), True),
    (("leaves", [("fun", COUNT), ("fun", AA), ("name", 0)], [TWO], read_program("fun f : a > a. fun x : a. f (f x)")), False),
]


def other_word(word):
    return next(other for pair in WORDS for other in pair if word in pair and other != word)


def tupled(value):
    """The value with tuples in the place of lists."""
    return tuple(tupled(inner) for inner in value) if isinstance(value, (list, tuple)) else value


def all_claims():
    """All claims of the table, and whether they are true."""
    for claim, holds in CLAIMS:
        yield claim, holds
        yield (other_word(claim[0]),) + claim[1:], not holds


class Words(Checks):
    def test_words(self):
        self.check(WORDS, words)


class IsClaim(Checks):
    def test_right_ones(self):
        for claim, _ in all_claims():
            self.check(True, is_claim, value=claim)
            self.check(True, is_claim, value=tupled(claim))
            self.check(False, is_claim, value=list(claim))

    def test_nothing_is_decided(self):
        # Limits that stop all else are none for what a claim is.
        for claim in stopped_claims():
            self.check(True, is_claim, value=claim)

    def test_wrong_ones(self):
        count_fun, sums = read_program("fun n : count. n"), read_program("fun s : a + b. 1")
        for value in ODD + [
                ("alike",), ("alike", ONE), ("alike", ONE, ONE, ONE), ("alike", ONE, NEAR), ("alike", count_fun, count_fun), ("unlike", sums, sums),
                ("alike", ONE, None), ("alike", None, ONE), ("alike", [("name", 0)], [("name", 0)]), ("alike", [("told", True)], ONE), ("like", ONE, ONE),
                ("Alike", ONE, ONE), (["alike"], ONE, ONE), ({}, ONE, ONE), (None, ONE, ONE), ("", ONE, ONE), ("alike", EIGHT, EIGHT), ("alike", EIGHT, ONE),
                ("prints", ONE, ONE), ("prints", EIGHT), ("prints", EIGHT, NEAR), ("prints", EIGHT, EIGHT), ("prints", ONE, EIGHT), ("misprints", EIGHT, ONE, ONE),
                ("prints", compiled(count_fun), count_fun), ("prints", [], ONE), ("misprints", EIGHT, None),
                ("plain",), ("plain", ONE, ONE), ("steps", EIGHT), ("steps", None), ("plain", [("name", 0)]), ("steps", ONE, (0, "next")), ("plain", nexts(301)),
                ("leaves", MORE, [TWO]), ("leaves", MORE, TWO, THREE), ("leaves", MORE, [NEAR], THREE), ("leaves", MORE, [TWO, TWO], THREE),
                ("leaves", MORE, [], MORE), ("leaves", MORE, [], THREE), ("leaves", MORE, [TWO], NEAR), ("leaves", MORE, THREE, [TWO]), ("leaves", ONE, [TWO], ONE),
                ("leavesnot", MORE, None, THREE), ("leaves", MORE, [TWO], None), ("leaves", None, [TWO], THREE), ("leavesnot", MORE, [TWO], THREE, THREE),
                ("leaves", MORE, {0: TWO}, THREE), ("leaves", MORE, [None], THREE), ("leaves", POWER, [], POWER)]:
            self.check(False, is_claim, value=value)
            for function in (is_true, contrary, paper_of):
                self.check_error(InvalidClaim, {"value": value}, function, claim=value)
            self.check_error(InvalidClaim, {"value": value}, is_paper_of, claim=value, value=None)


class Contrary(Checks):
    def test_the_other_word_and_the_same_parts(self):
        for claim, _ in all_claims():
            for passed in (claim, tupled(claim)):
                other = contrary(passed)
                self.check(other, contrary, claim=passed)
                self.assertEqual(other[0], other_word(claim[0]))
                self.assertTrue(same(other[1:], passed[1:]))
                self.check(passed, contrary, claim=other)

    def test_lists_and_tuples_are_new(self):
        claim = ("leaves", tuple(MORE), [tuple(TWO)], THREE)
        other = contrary(claim)
        self.assertTrue(same(other, ("leavesnot", tuple(MORE), [tuple(TWO)], THREE)))
        for place in range(1, 4):
            self.assertIsNot(other[place], claim[place])
        self.assertIsNot(other[2][0], claim[2][0])
        self.assertIsNot(other[1][0], claim[1][0])
        self.assertFalse({id(row) for row in inner_lists(other)} & {id(row) for row in inner_lists(claim)})
        code = ("prints", [([], (), COUNT, [("told", 8)])], [("told", 8)])
        self.assertTrue(same(contrary(code), ("misprints",) + code[1:]))
        self.assertIsNot(contrary(code)[1][0], code[1][0])


class IsTrue(Checks):
    def test_just_one_of_both(self):
        for claim, holds in all_claims():
            self.check(holds, is_true, claim=claim)
            self.check(holds, is_true, claim=tupled(claim))

    def test_random_ones(self):
        rng = random.Random(111)
        for one, other in shown_pairs(rng, 60, 2, 60):
            try:
                prints, others = printed(one), printed(other)
            except TooMany:
                continue
            self.assertEqual(is_true(("alike", one, other)), prints == others)
            self.assertEqual(is_true(("unlike", one, other)), prints != others)
            self.assertEqual(is_true(("plain", one)), is_plain(one))
            code = changed_code(rng, compiled(one))
            self.assertEqual(is_true(("prints", code, prints)), decompiled(code) == prints)
            self.assertTrue(is_true(("prints", compiled(one), prints)))
            self.assertTrue(is_true(("leaves", one, [], prints)))


def stopped_claims():
    great = [("fun", COUNT), ("name", 0)]
    for claim in (("alike", power(149), power(1)), ("alike", turned(2001), ONE), ("prints", compiled(turned(2001)), ONE), ("leaves", great, [nexts(298)], ONE)):
        yield claim
        yield (other_word(claim[0]),) + claim[1:]


class Papers(Checks):
    def check_papers(self, claim, is_here):
        """The paper of a claim that is true; none of one that is not; never one of both."""
        paper, other = paper_of(claim), contrary(claim)
        self.assertEqual(is_true(claim), is_here)
        self.assertEqual(is_true(other), not is_here)
        if not is_here or claim[0] == "plain":
            self.assertIsNone(paper)
            self.check(False, is_paper_of, claim=claim, value=None)
            return None
        self.check(paper, paper_of, claim=claim)
        self.check(True, is_paper_of, claim=claim, value=paper)
        self.check(True, is_paper_of, claim=tupled(claim), value=paper)
        self.check(False, is_paper_of, claim=other, value=paper)
        return paper

    def test_each_line(self):
        for claim, holds in all_claims():
            for passed in (claim, tupled(claim)):
                try:
                    paper = self.check_papers(passed, holds)
                except TooMany:
                    self.fail(claim)
            if not holds or claim[0] == "plain":
                continue
            word = claim[0]
            if word in ("alike", "leaves"):
                self.assertTrue(isinstance(paper, tuple) and len(paper) == 3)
                self.check(True, is_paper_of, claim=claim, value=(tuple(paper[0]), tuple(paper[1]), tuple(paper[2])))
                self.check(False, is_paper_of, claim=claim, value=list(paper))
            elif word == "prints":
                self.assertIsInstance(paper, list)
                self.check(True, is_paper_of, claim=claim, value=tuple(paper))
            elif word == "steps":
                self.assertIn(paper, first_steps(claim[1]))
            else:
                self.assertTrue(isinstance(paper, tuple) and len(paper) == 2)
                self.check(True, is_paper_of, claim=claim, value=(paper[0], tuple(paper[1])))
                self.check(False, is_paper_of, claim=claim, value=list(paper))

    def test_papers_are_what_they_are_said_to_be(self):
        one, other = power(2), [("let",), ("told", 3)] + power(2)
        meeting = (form(one), steps_of(one), steps_of(other))
        self.check(True, is_paper_of, claim=("alike", one, other), value=meeting)
        self.check(False, is_paper_of, claim=("alike", other, one), value=meeting)
        # Both may be led to any program, a plain one or not.
        self.check(True, is_paper_of, claim=("alike", one, other), value=(one, [], [(0, "let")]))
        self.check(False, is_paper_of, claim=("alike", one, other), value=(one, [(0, "let")], []))
        self.check(False, is_paper_of, claim=("alike", one, other), value=(other, [], [(0, "let")]))
        self.check(True, is_paper_of, claim=("alike", one, one), value=(one, [], []))
        self.check(False, is_paper_of, claim=("alike", NEAR, FAR), value=(NEAR, [], []))
        test = found_test(NEAR, FAR)
        self.check(True, is_paper_of, claim=("unlike", NEAR, FAR), value=test)
        self.check(False, is_paper_of, claim=("unlike", FAR, NEAR), value=test)
        self.check(False, is_paper_of, claim=("alike", NEAR, FAR), value=test)
        # The code comes first in the test of a misprint.
        self.check(True, is_paper_of, claim=("misprints", compiled(NEAR), FAR), value=test)
        self.check(False, is_paper_of, claim=("misprints", compiled(FAR), NEAR), value=test)
        self.check(True, is_paper_of, claim=("prints", compiled(one), one), value=steps_of(one))
        self.check(False, is_paper_of, claim=("prints", compiled(one), one), value=steps_of(one)[:-1])
        self.check(False, is_paper_of, claim=("prints", compiled(one), one), value=[])
        self.check(True, is_paper_of, claim=("leaves", POWER, [TWO], printed(one)), value=(form(one), steps_of(called(POWER, [TWO])), []))
        self.check(True, is_paper_of, claim=("leavesnot", NEAR, [], FAR), value=test)
        for position, rule in first_steps(one):
            self.check(True, is_paper_of, claim=("steps", one), value=(position, rule))
            self.check(False, is_paper_of, claim=("plain", one), value=(position, rule))
            self.check(False, is_paper_of, claim=("steps", one), value=[position, rule])
            self.check(False, is_paper_of, claim=("steps", one), value=[(position, rule)])
            self.check(False, is_paper_of, claim=("steps", one), value=(position + 1000, rule))

    def test_papers_with_one_thing_otherwise(self):
        # Steps that cannot be made twice, or not at all; callers that are changed.
        for claim, holds in all_claims():
            if not holds or claim[0] == "plain":
                continue
            paper = paper_of(claim)
            for value in ODD + [(paper, paper), [paper], (paper,)] + changed_papers(claim[0], paper):
                self.check(claim[0] == "prints" and value in ([], ()) and paper == [], is_paper_of, claim=claim, value=value)

    def test_true_is_not_one(self):
        claim = ("steps", [("both",)] + NEXT + ONE)
        self.check(True, is_paper_of, claim=claim, value=(1, "next"))
        self.check(False, is_paper_of, claim=claim, value=(True, "next"))
        claim = ("alike", NEXT, TWO)
        self.check(True, is_paper_of, claim=claim, value=(TWO, [(0, "next")], []))
        self.check(False, is_paper_of, claim=claim, value=(TWO, [(False, "next")], []))
        claim = ("alike", [("next",), ("told", 0)], ONE)
        self.check(False, is_paper_of, claim=claim, value=([("told", True)], [(0, "next")], []))
        self.check(False, is_paper_of, claim=("unlike", NEAR, FAR), value=(True, found_test(NEAR, FAR)[1]))

    def test_random_ones(self):
        rng = random.Random(112)
        met = {}
        for one, other in shown_pairs(rng, 25, 2, 50):
            first = decompiled(compiled(one)) if fits_small(one) else None
            if first is None:
                continue
            for claim in (("alike", one, other), ("prints", compiled(one), one), ("prints", compiled(one), other), ("plain", one), ("leaves", one, [], other),
                          ("alike", one, first)):
                try:
                    holds = is_true(claim)
                    self.check_papers(claim, holds)
                    self.check_papers(contrary(claim), not holds)
                    met[claim[0], holds] = met.get((claim[0], holds), 0) + 1
                except TooMany:
                    continue
        for word in ("alike", "prints", "leaves"):
            self.assertTrue(met.get((word, True), 0) > 0 and met.get((word, False), 0) > 0, met)

    def test_partings_and_what_is_alike(self):
        for one, other, _ in PARTINGS[:12]:
            one, other = read_program(one), read_program(other)
            if ("told", 1000000) not in other:
                self.check_papers(("alike", one, other), False)
                self.check_papers(("unlike", one, other), True)
                self.check_papers(("misprints", compiled(one), other), True)
        for one, other in ALIKE:
            one, other = read_program(one), read_program(other)
            self.check_papers(("alike", one, other), True)
            self.check_papers(("prints", compiled(one), other), True)
            self.check_papers(("misprints", compiled(one), other), False)


def fits_small(program):
    try:
        return len(printed(program)) <= 100
    except TooMany:
        return False


def changed_papers(word, paper):
    """Papers with one thing otherwise, none of which is one."""
    if word == "steps":
        return [paper + (1,), paper[:1], (paper[0] + 500, paper[1]), (paper[0], "jump"), (str(paper[0]), paper[1]), list(paper)]
    if word == "prints":
        return [paper + [(0, "let")], [(500, "call")] + paper, (paper, []), paper + [None]] + ([paper[:-1], paper[1:]] if paper else [])
    if word in ("alike", "leaves"):
        made, left, right = paper
        return [(made, left), (made, left, right, right), [made, left, right], (made, left + [(0, "let")], right), (made, left, right + [(0, "let")]),
                (made + made, left, right), ([("told", 99)], left, right), (made, None, right), (made, left, None), (None, left, right),
                (made, [list(step) for step in left] + [[0, "let"]], right)] + (
                    [(made, left[:-1], right)] if left else []) + ([(made, left, right[1:])] if right else [])
    many, caller = paper
    return [(many,), (many, caller, caller), [many, caller], (many + 1, caller) if "letter" in str(caller) else (0, caller), (12, caller), (many, caller[:-1]),
            (many, None), (caller, many), (many, caller + caller)]


class Limits(Checks):
    def test_is_true(self):
        often, turning = power(149), power(3000)
        for one, other, told in ((often, turning, NODES), (turning, often, CALLS), (power(1), often, NODES), (power(1), turning, CALLS)):
            for word in ("alike", "unlike"):
                self.check_error(TooMany, told, is_true, claim=(word, one, other))
                self.check_error(TooMany, told, paper_of, claim=(word, one, other))
            for word in ("prints", "misprints"):
                self.check_error(TooMany, told, is_true, claim=(word, compiled(one), other))
                self.check_error(TooMany, told, paper_of, claim=(word, compiled(one), other))
            for word in ("leaves", "leavesnot"):
                self.check_error(TooMany, told, is_true, claim=(word, one, [], other))
                self.check_error(TooMany, told, paper_of, claim=(word, one, [], other))
        # What is called is told ahead of all that is printed.
        many = [("fun", COUNT), ("fun", COUNT), ("name", 1)]
        for word in ("leaves", "leavesnot"):
            claim = (word, many[:2] + [("told", 0)], [nexts(299), nexts(299)], turned(3000))
            for function in (is_true, paper_of):
                self.check_error(TooMany, NODES, function, claim=claim)
            self.check_error(TooMany, NODES, is_paper_of, claim=claim, value=None)
            claim = (word, many, [turned(3000), ONE], nexts(300))
            self.check_error(TooMany, CALLS, is_true, claim=claim)
        # No limit stops what is plain, or not.
        self.check(False, is_true, claim=("plain", turned(3000)))
        self.check((0, "turns"), paper_of, claim=("steps", turned(3000)))

    def test_is_paper_of(self):
        # Only what is called, and what a code prints, has limits.
        for one, other in ((power(149), power(3000)), (turned(3000), turned(3001))):
            for word in ("alike", "unlike"):
                self.check(False, is_paper_of, claim=(word, one, other), value=None)
            self.check(True, is_paper_of, claim=("alike", one, one), value=(one, [], []))
            self.check(True, is_paper_of, claim=("leaves", one, [], one), value=(one, [], []))
        for value in (None, [], (1, ONE)):
            for word in ("prints", "misprints"):
                self.check_error(TooMany, NODES, is_paper_of, claim=(word, compiled(power(149)), power(1)), value=value)
                self.check_error(TooMany, CALLS, is_paper_of, claim=(word, compiled(power(3000)), power(149)), value=value)
                self.check(False, is_paper_of, claim=(word, compiled(power(1)), power(3000)), value=None)
        self.check(True, is_paper_of, claim=("unlike", [("both",), *turned(3000), *ONE], [("both",), *turned(3), *TWO])[:1] + (NEAR, FAR), value=found_test(NEAR, FAR))

    def test_paper_of(self):
        # As steps_of, of the one, then of the other one.
        slow, great = turned(150), let_often(100)
        for program, wanted in ((slow, STEPS), (great, NODES)):
            self.check_error(TooMany, wanted, steps_of, program=program)
            self.check_error(TooMany, wanted, paper_of, claim=("alike", program, printed(program)))
            self.check_error(TooMany, wanted, paper_of, claim=("alike", printed(program), program))
            self.check_error(TooMany, wanted, paper_of, claim=("prints", compiled(printed(program)), program))
            self.check_error(TooMany, wanted, paper_of, claim=("leaves", program, [], printed(program)))
            self.assertTrue(is_true(("prints", compiled(program), printed(program))))
            self.check([], paper_of, claim=("prints", compiled(program), printed(program)))
        self.check_error(TooMany, STEPS, paper_of, claim=("alike", slow, [("first",), ("both",)] + slow + ONE))
        self.check_error(TooMany, NODES, paper_of, claim=("alike", let_often(77, 74), turned(150)))
        self.check_error(TooMany, STEPS, paper_of, claim=("alike", turned(150), let_often(77, 74)))
        # As test_of.
        met = [("fun", wide(57)), ("told", 1)], [("fun", wide(57)), ("told", 2)]
        self.check_error(TooMany, SIGNS, paper_of, claim=("unlike", *met))
        self.check_error(TooMany, SIGNS, paper_of, claim=("misprints", compiled(met[0]), met[1]))
        self.check_error(TooMany, SIGNS, paper_of, claim=("leavesnot", met[0], [], met[1]))
        self.check_error(TooMany, CALLS, paper_of, claim=("unlike", [("told", 3000)], ONE))
        self.check_error(TooMany, DEPTH, paper_of, claim=("unlike", [("fun", met_deep(11)), *ONE], [("fun", met_deep(11)), *TWO]))
        # None of these where the claim is not true.
        self.check(None, paper_of, claim=("alike", *met))
        self.check(None, paper_of, claim=("unlike", slow, printed(slow)))


def let_often(nodes, start=0):
    """A count behind so many nodes from the start on: a step makes more than 300 nodes of this."""
    four = [("both",), ("both",), ("name", 0), ("name", 0), ("both",), ("name", 0), ("name", 0)]
    return [("first",), ("first",), ("let",)] + nexts(nodes, ("told", start)) + four


def met_deep(many):
    return A if many == 1 else ("pair", met_deep(many - 1), A)


class Facts(Checks):
    def test_kinds_of_parts(self):
        # Also of kinds that are shown, but no data.
        kind = program_kind(NEAR)
        self.assertEqual(code_kind(compiled(NEAR)), kind)
        self.check(True, is_claim, value=("leaves", NEAR, [], left_of(NEAR, [])))
        self.check(True, is_test, program=NEAR, other=FAR, value=paper_of(("unlike", NEAR, FAR)))
        self.assertEqual(counts_kind(deep(2)), fun(COUNT, COUNT))


if __name__ == "__main__":
    unittest.main()
