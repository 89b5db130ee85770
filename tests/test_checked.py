"""selfprint.checked: [8], [17], [18], and what [16] says of kinds."""

import random
import unittest

from helper import A, B, C, COUNT, ODD, ROW, Checks, deep, fun, nexts, pair, random_fitting, random_kind, random_program
from helper import random_term, sum_of, tree_of, wide
from selfprint.checked import fits, is_program, kind_of, kinds_at, program_kind
from selfprint.errors import InvalidNames, InvalidProgram, InvalidTerm, NoKind, TooMany
from selfprint.terms import is_term, letters_put, lifted, put_in, size_of
from selfprint.kinds import letters, put_kind

STEP = fun(A, A)
TWICE = [("fun", STEP), ("fun", A), ("call",), ("name", 1), ("call",), ("name", 1), ("name", 0)]
ONE = ("told", 1)
NO_NAMES = [None, True, False, 0, 1, "", "a", b"", {}, set(), A, COUNT, [None], [True], [list(A)], [A, 1], [("letter", 6)],
            [deep(13)], [A, wide(61)], [A] * 9, (A,) * 9, [[]], [[A]], [("letter", True)], object()]


class Unfit(Exception):
    pass


def plain_kind(tree, row, spot):
    """The kind of a tree and the spot behind it; Unfit with the spot of the first node that does not fit."""
    (word, *more), inner = tree
    if word == "name":
        return told(row[more[0]] if more[0] < len(row) else None, spot), spot + 1
    if word == "told":
        return COUNT, spot + 1
    at = spot + 1
    found = []
    for place, child in enumerate(inner):
        bound = []
        if word == "which" and place > 0:
            told(found[0] if found[0][0] == "sum" else None, spot)
            bound = [found[0][place]]
        if word == "fun" or (word == "turns" and place == 1):
            bound = [more[0]]
        if word == "let" and place == 1:
            bound = [found[0]]
        kind, at = plain_kind(child, bound + row, at)
        found.append(kind)
    return told(plain_row(word, more, found), spot), at


def plain_row(word, more, found):
    """What the row of the table in [7] says of the kinds of the children; None if it wants others."""
    first = found[0]
    if word in ("fun", "left", "right", "both"):
        made = {"fun": ("fun", *more, first), "left": ("sum", first, *more), "right": ("sum", *more, first),
                "both": ("pair", *found)}[word]
        return made if str(made).count("(") <= 60 and deepness(made) <= 12 else None
    if word == "call":
        return first[2] if first[0] == "fun" and first[1] == found[1] else None
    if word in ("first", "second"):
        return first[1 if word == "first" else 2] if first[0] == "pair" else None
    if word == "which":
        return found[1] if found[1] == found[2] else None
    if word == "next":
        return COUNT if first == COUNT else None
    if word == "turns":
        return more[0] if found == [COUNT, more[0], more[0]] else None
    return found[1]


def deepness(kind):
    return 1 + max([deepness(inner) for inner in kind[1:] if isinstance(inner, tuple)], default=0)


def told(kind, spot):
    if kind is None:
        raise Unfit(spot)
    return kind


class Rows(Checks):
    """Each row of the table of nodes, fitting and not fitting."""

    def fit(self, kind, names, term):
        self.check(kind, kind_of, names=names, term=term)
        self.check(True, fits, names=names, term=term)

    def unfit(self, position, names, term):
        self.check_error(NoKind, {"position": position}, kind_of, names=names, term=term)
        self.check_error(NoKind, {"position": position}, kinds_at, names=names, term=term)
        self.check(False, fits, names=names, term=term)

    def test_name(self):
        self.fit(A, [A], [("name", 0)])
        self.fit(B, (A, B), (("name", 1),))
        self.fit(fun(A, A), [B], [("fun", A), ("name", 0)])
        self.fit(fun(A, B), [B], [("fun", A), ("name", 1)])
        self.fit(C, [A] * 7 + [C], [("name", 7)])
        self.unfit(0, [], [("name", 0)])
        self.unfit(0, [A] * 8, [("name", 8)])
        self.unfit(0, [A] * 8, [("name", 299)])
        self.unfit(1, [B], [("fun", A), ("name", 2)])

    def test_fun(self):
        self.fit(fun(STEP, COUNT), [], [("fun", STEP), ONE])
        self.unfit(1, [], [("fun", A), ("name", 1)])

    def test_call(self):
        self.fit(B, [fun(A, B), A], [("call",), ("name", 0), ("name", 1)])
        self.unfit(0, [fun(A, B), B], [("call",), ("name", 0), ("name", 1)])
        self.unfit(0, [A, A], [("call",), ("name", 0), ("name", 1)])
        self.unfit(0, [pair(A, B), A], [("call",), ("name", 0), ("name", 1)])
        self.unfit(0, [sum_of(A, B), A], [("call",), ("name", 0), ("name", 1)])
        self.unfit(2, [A], [("call",), ("name", 0), ("name", 1)])

    def test_both(self):
        self.fit(pair(A, COUNT), [A], [("both",), ("name", 0), ONE])
        self.unfit(1, [A], [("both",), ("name", 1), ("name", 2)])
        self.unfit(2, [A], [("both",), ("name", 0), ("name", 2)])

    def test_first_and_second(self):
        self.fit(A, [pair(A, B)], [("first",), ("name", 0)])
        self.fit(B, [pair(A, B)], [("second",), ("name", 0)])
        for word in ("first", "second"):
            for kind in (A, COUNT, sum_of(A, B), fun(A, B)):
                self.unfit(0, [kind], [(word,), ("name", 0)])

    def test_left_and_right(self):
        self.fit(sum_of(A, B), [A], [("left", B), ("name", 0)])
        self.fit(sum_of(B, A), [A], [("right", B), ("name", 0)])
        self.unfit(1, [], [("left", B), ("name", 0)])
        self.unfit(1, [], [("right", B), ("name", 0)])

    def test_which(self):
        self.fit(A, [sum_of(A, A)], [("which",), ("name", 0), ("name", 0), ("name", 0)])
        self.fit(B, [sum_of(A, B), B], [("which",), ("name", 0), ("name", 2), ("name", 0)])
        self.unfit(0, [sum_of(A, B)], [("which",), ("name", 0), ("name", 0), ("name", 0)])
        self.unfit(2, [sum_of(A, B)], [("which",), ("name", 0), ("name", 2), ("name", 0)])
        self.unfit(3, [sum_of(A, B)], [("which",), ("name", 0), ("name", 0), ("name", 2)])

    def test_a_which_of_no_sum_is_seen_ahead_of_its_arms(self):
        for kind in (A, COUNT, pair(A, B), fun(A, B)):
            self.unfit(0, [kind], [("which",), ("name", 0), ("name", 9), ("name", 9)])
        self.unfit(1, [A], [("which",), ("name", 9), ("name", 9), ("name", 9)])
        self.unfit(2, [sum_of(A, B)], [("which",), ("name", 0), ("name", 9), ("name", 9)])
        self.unfit(1, [A], [("next",), ("which",), ("name", 0), ONE, ONE])

    def test_told_and_next(self):
        self.fit(COUNT, [], [("told", 0)])
        self.fit(COUNT, [], [("told", 1000000)])
        self.fit(COUNT, [], [("next",), ("told", 1000000)])
        self.fit(COUNT, [COUNT], [("next",), ("next",), ("name", 0)])
        for kind in (A, pair(COUNT, COUNT), sum_of(COUNT, COUNT), fun(COUNT, COUNT)):
            self.unfit(0, [kind], [("next",), ("name", 0)])

    def test_turns(self):
        turns = [("turns", A), ("name", 0), ("name", 2), ("name", 1)]
        self.fit(A, [COUNT, A], turns)
        self.fit(A, [COUNT, A], [("turns", A), ("name", 0), ("name", 0), ("name", 1)])
        self.unfit(0, [A, A], turns)
        self.unfit(0, [COUNT, B], turns)
        self.unfit(0, [COUNT, A], [("turns", A), ("name", 0), ("name", 1), ("name", 1)])
        self.unfit(0, [COUNT, A], [("turns", A), ("name", 0), ("name", 0), ("name", 0)])
        self.unfit(3, [COUNT, A], [("turns", A), ("name", 0), ("name", 0), ("name", 2)])
        self.unfit(2, [COUNT, A], [("turns", A), ("name", 0), ("name", 3), ("name", 2)])
        self.unfit(1, [COUNT, A], [("turns", A), ("name", 2), ("name", 3), ("name", 2)])

    def test_let(self):
        self.fit(A, [A], [("let",), ("name", 0), ("name", 0)])
        self.fit(pair(COUNT, A), [A], [("let",), ONE, ("both",), ("name", 0), ("name", 1)])
        self.unfit(1, [A], [("let",), ("name", 1), ("name", 9)])
        self.unfit(2, [A], [("let",), ("name", 0), ("name", 2)])

    def test_children_ahead_of_their_node_from_left_to_right(self):
        self.unfit(3, [A], [("call",), ("next",), ("both",), ("next",), ("name", 0), ONE, ("name", 9)])
        self.unfit(5, [A], [("call",), ("both",), ("name", 0), ONE, ("first",), ("second",), ("name", 0)])
        self.unfit(0, [A], [("call",), ("both",), ("name", 0), ONE, ("name", 0)])

    def test_too_great(self):
        self.fit(pair(wide(29), wide(29)), [wide(29)], [("both",), ("name", 0), ("name", 0)])
        self.unfit(0, [wide(29), wide(31)], [("both",), ("name", 0), ("name", 1)])
        self.fit(deep(12), [deep(11)], [("fun", A), ("name", 1)])
        self.unfit(0, [deep(12)], [("fun", A), ("name", 1)])
        self.fit(fun(deep(11), COUNT), [], [("fun", deep(11)), ONE])
        self.unfit(0, [], [("fun", deep(12)), ONE])
        self.fit(sum_of(A, deep(11)), [A], [("left", deep(11)), ("name", 0)])
        self.unfit(0, [A], [("left", deep(12)), ("name", 0)])
        self.fit(sum_of(deep(11), A), [A], [("right", deep(11)), ("name", 0)])
        self.unfit(0, [A], [("right", deep(12)), ("name", 0)])
        self.unfit(0, [wide(31)], [("left", wide(29)), ("name", 0)])
        self.unfit(0, [wide(31)], [("right", wide(29)), ("name", 0)])
        self.unfit(0, [wide(31)], [("fun", wide(29)), ("name", 1)])

    def test_what_is_too_great_within_does_not_fit_either(self):
        self.unfit(1, [deep(12)], [("next",), ("fun", A), ("name", 1)])
        self.unfit(2, [deep(12)], [("let",), ONE, ("both",), ("name", 1), ("name", 1)])
        self.fit(deep(12), [deep(12)], [("let",), ("name", 0), ("name", 0)])

    def test_as_the_table_says(self):
        rng = random.Random(8)
        seen = {True: 0, False: 0}
        for _ in range(1500):
            names = [random_kind(rng, 3) for _ in range(rng.randrange(9))]
            term = random_term(rng, 5, len(names) or 1)
            self.as_told(names, term, seen)
        for _ in range(400):
            term = random_program(rng, 3)[len(ROW):]
            if len(term) < 300:
                place, other = rng.randrange(len(term)), rng.randrange(len(term))
                term[place] = term[other]
                if is_term(term):
                    self.as_told(list(ROW), term, seen)
        self.assertGreater(min(seen.values()), 300)

    def as_told(self, names, term, seen):
        try:
            wanted, _ = plain_kind(tree_of(term), names, 0)
        except Unfit as why:
            with self.assertRaises(NoKind) as caught:
                kind_of(names, term)
            self.assertEqual((caught.exception.position, names, term), (*why.args, names, term))
            self.assertIs(fits(names, term), False)
            seen[False] += 1
        else:
            self.assertEqual(kind_of(names, term), wanted)
            self.assertIs(fits(names, term), True)
            seen[True] += 1


class AllNodes(Checks):
    def test_kinds_at(self):
        self.check([fun(STEP, STEP), STEP, A, STEP, A, STEP, A], kinds_at, names=[], term=TWICE)
        self.check([COUNT, COUNT], kinds_at, names=(), term=(("next",), ("told", 1)))
        self.check([A, STEP, A], kinds_at, names=[A, STEP], term=TWICE[4:])
        which = [("which",), ("name", 1), ("both",), ("name", 0), ("name", 1), ("both",), ("name", 1), ("told", 3)]
        names = [A, sum_of(A, COUNT)]
        self.check_error(NoKind, {"position": 0}, kinds_at, names=names, term=which)
        which[6:] = [("name", 1), ("name", 0)]
        self.check_error(NoKind, {"position": 0}, kinds_at, names=names, term=which)
        which[2:] = [("told", 1), ("name", 0)]
        self.check([COUNT, sum_of(A, COUNT), COUNT, COUNT], kinds_at, names=names, term=which)

    def test_as_many_as_nodes(self):
        rng = random.Random(9)
        for _ in range(100):
            term = random_program(rng, 3)
            if len(term) <= 300:
                found = kinds_at([], term)
                self.assertEqual(len(found), size_of(term))
                self.assertEqual(found[0], program_kind(term))


class Facts(Checks):
    def test_putting_in_goes_along_with_kinds(self):
        rng = random.Random(10)
        for _ in range(200):
            kind, other_kind = random_kind(rng, 3), random_kind(rng, 3)
            term = random_fitting(rng, kind, [other_kind] + ROW, 3)
            other = random_fitting(rng, other_kind, list(ROW), 2)
            if len(term) <= 300 and len(other) <= 300:
                self.assertEqual(kind_of([other_kind] + ROW, term), kind)
                self.assertEqual(kind_of(ROW, other), other_kind)
                try:
                    self.assertEqual(kind_of(ROW, put_in(term, other)), kind)
                except TooMany:
                    pass

    def test_what_is_lifted_fits_with_names_more(self):
        rng = random.Random(11)
        for _ in range(100):
            kind = random_kind(rng, 3)
            term = random_fitting(rng, kind, list(ROW), 2)
            if len(term) <= 300:
                self.assertEqual(kind_of([B, COUNT] + ROW, lifted(term, 2)), kind)

    def test_letters_put_go_along_with_kinds(self):
        rng = random.Random(12)
        done = 0
        for _ in range(200):
            kind, other = random_kind(rng, 3), random_kind(rng, 2)
            term = random_fitting(rng, kind, list(ROW), 3)
            if len(term) > 300:
                continue
            for letter in letters(kind)[:1] + [0]:
                try:
                    made = letters_put(term, letter, other)
                    names = [put_kind(known, letter, other) for known in ROW]
                    wanted = put_kind(kind, letter, other)
                    self.assertEqual(kind_of(names, made), wanted)
                    done += 1
                except TooMany:
                    pass
        self.assertGreater(done, 200)


class Programs(Checks):
    def test_programs(self):
        self.check(True, is_program, value=TWICE)
        self.check(True, is_program, value=tuple(TWICE))
        self.check(True, is_program, value=nexts(300))
        self.check(False, is_program, value=nexts(301))
        self.check(False, is_program, value=TWICE[4:])
        self.check(False, is_program, value=[("next",), ("fun", A), ("name", 0)])
        self.check(fun(STEP, STEP), program_kind, program=TWICE)
        self.check(COUNT, program_kind, program=(ONE,))

    def test_any_value(self):
        for value in ODD:
            self.check(False, is_program, value=value)
        self.check_invalid(InvalidProgram, program_kind, "program", ODD + [TWICE[4:], nexts(301)], program=None)


class Errors(Checks):
    def test_names(self):
        for function in (kind_of, fits, kinds_at):
            self.check_invalid(InvalidNames, function, "names", NO_NAMES, names=None, term=[ONE])
            function([A] * 8, [ONE])
            function((), [ONE])

    def test_terms(self):
        for function in (kind_of, fits, kinds_at):
            self.check_invalid(InvalidTerm, function, "term", ODD, names=[], term=None)

    def test_the_first_error_is_told(self):
        for function in (kind_of, fits, kinds_at):
            self.check_error(InvalidNames, {"value": 0}, function, names=0, term=0)
            self.check_error(InvalidTerm, {"value": 0}, function, names=[], term=0)


if __name__ == "__main__":
    unittest.main()
