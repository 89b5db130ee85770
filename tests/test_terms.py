"""selfprint.terms: [7], [13] to [16], and letters put in terms."""

import random
import unittest

from helper import A, B, COUNT, ODD, Checks, deep, fun, nexts, pair, plainly_lifted, plainly_put_in, random_term, wide
from selfprint.errors import InvalidKind, InvalidLetter, InvalidMany, InvalidPosition, InvalidTerm, TooMany
from selfprint.nodes import BINDS
from selfprint.terms import children, is_term, letters_put, lifted, open_names, part, put_in, size_of

STEP = fun(A, A)
TWICE = [("fun", STEP), ("fun", A), ("call",), ("name", 1), ("call",), ("name", 1), ("name", 0)]
ONE = ("told", 1)
TELLS_KIND = ("fun", "left", "right", "turns")


def node_of(word):
    if word in TELLS_KIND:
        return (word, A)
    return (word, 0) if word in ("name", "told") else (word,)


NO_TERMS = ODD + [
    [], (), [ONE, ONE], [("call",), ONE], [("call",), ONE, ONE, ONE], ONE, "told", [list(ONE)], [ONE, None],
    [("fun", list(A)), ONE], [("fun", deep(13)), ONE], [("left", wide(61)), ONE], nexts(301), [("call",)] * 300,
    [("turns", A), ONE, ONE], [("turns",), ONE, ONE, ONE], [("which", A), ONE, ONE, ONE], [("let", A), ONE, ONE],
    [("name",)], [("name", 0, 0)], [("call", 0), ONE, ONE], [("name", "x")], {0: ONE}, {ONE: 1}, {ONE},
]


class WhatTermsAre(Checks):
    def test_each_word_wants_its_children(self):
        wanted = {"name": 0, "fun": 1, "call": 2, "both": 2, "first": 1, "second": 1, "left": 1, "right": 1, "which": 3,
                  "told": 0, "next": 1, "turns": 3, "let": 2}
        for word, many in wanted.items():
            for told in range(5):
                self.check(told == many, is_term, value=[node_of(word)] + [ONE] * told)

    def test_each_word_tells_just_its_own(self):
        for word, bound in BINDS.items():
            rest = [ONE] * len(bound)
            for node in ((word,), (word, A), (word, 0), (word, True), (word, A, A), (word, None), [*node_of(word)]):
                self.check(node == node_of(word), is_term, value=[node] + rest)

    def test_one_tree(self):
        self.check(True, is_term, value=TWICE)
        self.check(True, is_term, value=tuple(TWICE))
        self.check(False, is_term, value=TWICE[:-1])
        self.check(False, is_term, value=TWICE + [ONE])
        self.check(False, is_term, value=[ONE, ("next",)])
        self.check(False, is_term, value=[ONE, ("next",), ONE])

    def test_nodes(self):
        self.check(True, is_term, value=nexts(1))
        self.check(True, is_term, value=nexts(300))
        self.check(False, is_term, value=nexts(301))
        self.check(False, is_term, value=[("next",)] * 299)
        self.check(False, is_term, value=[])

    def test_names(self):
        self.check(True, is_term, value=[("name", 0)])
        self.check(True, is_term, value=[("name", 299)])
        for number in (300, -1, True, False, None, "0", 10 ** 30):
            self.check(False, is_term, value=[("name", number)])

    def test_told(self):
        self.check(True, is_term, value=[("told", 0)])
        self.check(True, is_term, value=[("told", 1000000)])
        for number in (1000001, -1, True, False, None, "0", 10 ** 30):
            self.check(False, is_term, value=[("told", number)])

    def test_no_terms(self):
        for value in NO_TERMS:
            self.check(False, is_term, value=value)

    def test_a_bool_for_any_value(self):
        for value in ODD:
            self.assertIs(type(is_term(value)), bool)


class Trees(Checks):
    def test_children(self):
        self.check([1], children, term=TWICE, position=0)
        self.check([3, 4], children, term=TWICE, position=2)
        self.check([], children, term=TWICE, position=6)
        self.check([3, 4], children, term=tuple(TWICE), position=2)
        which = [("which",), ("next",), ONE, ("call",), ONE, ONE, ("both",), ("next",), ONE, ONE]
        self.check([1, 3, 6], children, term=which, position=0)
        self.check([7, 9], children, term=which, position=6)

    def test_part(self):
        self.check(TWICE, part, term=TWICE, position=0)
        self.check(TWICE[4:], part, term=TWICE, position=4)
        self.check([("name", 1)], part, term=TWICE, position=3)
        self.check([("name", 0)], part, term=tuple(TWICE), position=6)
        self.check(TWICE, part, term=tuple(TWICE), position=0)

    def test_parts_and_children_go_together(self):
        rng = random.Random(4)
        for _ in range(100):
            term = random_term(rng, 5)
            for position in range(len(term)):
                inner = [node for place in children(term, position) for node in part(term, place)]
                self.assertEqual(part(term, position), [term[position]] + inner)
                self.assertTrue(is_term(part(term, position)))

    def test_size(self):
        self.check(7, size_of, term=TWICE)
        self.check(1, size_of, term=(ONE,))
        self.check(300, size_of, term=nexts(300))

    def test_positions(self):
        for function in (children, part):
            function(TWICE, 0)
            function(TWICE, 6)
            wrong = [7, -1, 300, 10 ** 30, True, False, None, "0", (0,), [0], {}]
            self.check_invalid(InvalidPosition, function, "position", wrong, term=TWICE, position=0)
            self.check_error(InvalidPosition, {"value": 1}, function, term=[ONE], position=1)
            self.check_error(InvalidPosition, {"value": 300}, function, term=nexts(300), position=300)

    def test_invalid_terms(self):
        for function in (size_of, open_names):
            self.check_invalid(InvalidTerm, function, "term", NO_TERMS, term=None)
        for function in (children, part):
            self.check_invalid(InvalidTerm, function, "term", NO_TERMS, term=None, position=0)
            self.check_error(InvalidTerm, {"value": []}, function, term=[], position=True)


class OpenNames(Checks):
    def test_open_names(self):
        self.check(0, open_names, term=TWICE)
        self.check(0, open_names, term=[ONE])
        self.check(1, open_names, term=[("name", 0)])
        self.check(300, open_names, term=[("name", 299)])
        self.check(2, open_names, term=TWICE[4:])
        self.check(1, open_names, term=TWICE[1:])
        self.check(3, open_names, term=[("both",), ("name", 2), ("name", 1)])

    def test_which_children_have_a_binder_more(self):
        for word, bound in BINDS.items():
            for place, more in enumerate(bound):
                for number in range(3):
                    inner = [ONE] * len(bound)
                    inner[place] = ("name", number)
                    self.check(max(0, number + 1 - more), open_names, term=[node_of(word)] + inner)

    def test_binders_told_by_the_table(self):
        self.assertEqual([word for word, bound in BINDS.items() if any(bound)], ["fun", "which", "turns", "let"])
        self.assertEqual([BINDS["which"], BINDS["turns"], BINDS["let"]], [(0, 1, 1), (0, 1, 0), (0, 1)])


class Lifted(Checks):
    def test_lifted(self):
        self.check([("name", 2)], lifted, term=[("name", 0)], many=2)
        self.check([("name", 5)], lifted, term=(("name", 5),), many=0)
        self.check(TWICE, lifted, term=TWICE, many=100)
        self.check([("fun", A), ("both",), ("name", 0), ("name", 4)], lifted,
                   term=[("fun", A), ("both",), ("name", 0), ("name", 1)], many=3)
        turns = [("turns", A), ("name", 0), ("name", 0), ("name", 0)]
        self.check([("turns", A), ("name", 1), ("name", 0), ("name", 1)], lifted, term=turns, many=1)
        let = [("let",), ("name", 0), ("both",), ("name", 0), ("name", 1)]
        self.check([("let",), ("name", 9), ("both",), ("name", 0), ("name", 10)], lifted, term=let, many=9)

    def test_as_told_of_trees(self):
        rng = random.Random(5)
        for _ in range(300):
            term, many = random_term(rng, 5), rng.randrange(5)
            self.assertEqual(lifted(term, many), plainly_lifted(term, many))

    def test_too_far_out(self):
        self.check([("name", 299)], lifted, term=[("name", 199)], many=100)
        told = {"what": "names", "limit": 299}
        self.check_error(TooMany, told, lifted, term=[("name", 200)], many=100)
        self.check_error(TooMany, told, lifted, term=[("both",), ("name", 0), ("name", 299)], many=1)
        self.check([("name", 299)], lifted, term=[("name", 299)], many=0)

    def test_a_bound_name_stays_however_far_out(self):
        term = [("fun", A)] * 299 + [("name", 298)]
        self.check(term, lifted, term=term, many=100)

    def test_invalid(self):
        self.check_invalid(InvalidTerm, lifted, "term", NO_TERMS, term=[ONE], many=0)
        for many in (0, 100):
            self.check([ONE], lifted, term=[ONE], many=many)
        wrong = [101, -1, 10 ** 30, True, False, None, "1", (1,), [1], {}]
        self.check_invalid(InvalidMany, lifted, "many", wrong, term=[("name", 299)], many=0)
        self.check_error(InvalidTerm, {"value": 0}, lifted, term=0, many=101)


class PutIn(Checks):
    def test_put_in(self):
        self.check([("call",), ("name", 0), ("told", 3)], put_in, term=TWICE[4:], other=[("told", 3)])
        self.check([("fun", A), ("name", 1)], put_in, term=[("fun", A), ("name", 1)], other=[("name", 0)])
        self.check([ONE], put_in, term=(ONE,), other=[("name", 299)])
        self.check([("both",), ONE, ONE], put_in, term=(("both",), ("name", 0), ("name", 0)), other=(ONE,))

    def test_bound_names_stay_and_open_ones_are_lifted(self):
        term = [("let",), ("name", 0), ("fun", B), ("both",), ("name", 2), ("both",), ("name", 1), ("name", 3)]
        other = [("call",), ("name", 0), ("fun", A), ("name", 0)]
        wanted = [("let",)] + other + [("fun", B), ("both",), ("call",), ("name", 2), ("fun", A), ("name", 0),
                                       ("both",), ("name", 1), ("name", 2)]
        self.check(wanted, put_in, term=term, other=other)

    def test_as_told_of_trees(self):
        rng = random.Random(6)
        compared = 0
        for _ in range(600):
            term, other = random_term(rng, 5), random_term(rng, 3)
            wanted = plainly_put_in(term, other)
            if len(wanted) <= 300:
                self.assertEqual(put_in(term, other), wanted)
                compared += term != wanted
        self.assertGreater(compared, 100)

    def test_what_is_lifted_by_1_takes_nothing_in(self):
        rng = random.Random(7)
        for _ in range(200):
            term, other = random_term(rng, 5), random_term(rng, 4)
            self.assertEqual(put_in(lifted(term, 1), other), term)

    def test_too_many_nodes(self):
        both = [("both",), ("name", 0), ("name", 0)]
        self.check([("both",)] + nexts(149) * 2, put_in, term=both, other=nexts(149))
        self.assertEqual(size_of(put_in([("next",)] + both, nexts(149))), 300)
        told = {"what": "nodes", "limit": 300}
        self.check_error(TooMany, told, put_in, term=both, other=nexts(150))
        self.check_error(TooMany, told, put_in, term=[("next",), ("name", 0)], other=nexts(300))
        self.check(nexts(300), put_in, term=[("name", 0)], other=nexts(300))

    def test_too_far_out(self):
        told = {"what": "names", "limit": 299}
        self.check([("fun", A), ("name", 299)], put_in, term=[("fun", A), ("name", 1)], other=[("name", 298)])
        self.check_error(TooMany, told, put_in, term=[("fun", A), ("name", 1)], other=[("name", 299)])
        self.check([("name", 299)], put_in, term=[("name", 0)], other=[("name", 299)])
        self.check([("name", 298)], put_in, term=[("name", 299)], other=[("name", 299)])
        self.check([("fun", A), ("name", 0)], put_in, term=[("fun", A), ("name", 0)], other=[("name", 299)])

    def test_nodes_ahead_of_names(self):
        term = [("fun", A), ("both",), ("name", 1), ("name", 1)]
        self.check_error(TooMany, {"what": "nodes", "limit": 300}, put_in, term=term, other=nexts(200, ("name", 299)))

    def test_invalid(self):
        self.check_invalid(InvalidTerm, put_in, "term", NO_TERMS, term=[ONE], other=[ONE])
        self.check_invalid(InvalidTerm, put_in, "other", NO_TERMS, term=[ONE], other=[ONE])
        self.check_error(InvalidTerm, {"value": 0}, put_in, term=0, other=1)


class LettersPut(Checks):
    def test_in_all_kinds_told(self):
        term = [("fun", STEP), ("left", A), ("right", B), ("turns", A), ONE, ("name", 0), ("both",), ONE, ("name", 0)]
        wanted = [("fun", fun(COUNT, COUNT)), ("left", COUNT), ("right", B), ("turns", COUNT), ONE, ("name", 0),
                  ("both",), ONE, ("name", 0)]
        self.check(wanted, letters_put, term=term, letter=0, kind=COUNT)
        self.check(wanted, letters_put, term=tuple(term), letter=0, kind=COUNT)
        self.check(term, letters_put, term=term, letter=5, kind=COUNT)
        self.check([ONE], letters_put, term=[ONE], letter=0, kind=A)

    def test_too_great(self):
        signs, depth = {"what": "signs", "limit": 60}, {"what": "depth", "limit": 12}
        wide_node, deep_node = ("fun", pair(A, A)), ("fun", fun(COUNT, A))
        for kind, told in ((wide(31), signs), (deep(12), depth)):
            node = wide_node if told == signs else deep_node
            self.check_error(TooMany, told, letters_put, term=[node, ONE], letter=0, kind=kind)
        self.check([("fun", pair(COUNT, wide(29))), ONE], letters_put, term=[("fun", pair(COUNT, B)), ONE], letter=1,
                   kind=wide(29))

    def test_the_first_kind_that_is_too_great_tells(self):
        both = pair(pair(A, A), pair(A, A))
        for kinds, told in (((fun(COUNT, A), both), "depth"), ((both, fun(COUNT, A)), "signs"), ((B, both), "signs")):
            term = [("fun", kinds[0]), ("left", kinds[1]), ONE]
            limit = {"signs": 60, "depth": 12}[told]
            self.check_error(TooMany, {"what": told, "limit": limit}, letters_put, term=term, letter=0, kind=deep(12))

    def test_invalid(self):
        self.check_invalid(InvalidTerm, letters_put, "term", NO_TERMS, term=[ONE], letter=0, kind=A)
        self.check_invalid(InvalidLetter, letters_put, "letter", [6, -1, True, False, None, "a", (0,), A],
                           term=[ONE], letter=0, kind=A)
        self.check_invalid(InvalidKind, letters_put, "kind", [0, None, list(A), ("letter", 6), deep(13), wide(61)],
                           term=[ONE], letter=0, kind=A)
        self.check_error(InvalidTerm, {"value": 0}, letters_put, term=0, letter=6, kind=0)
        self.check_error(InvalidLetter, {"value": 6}, letters_put, term=[ONE], letter=6, kind=0)
        self.check_error(InvalidKind, {"value": 0}, letters_put, term=[("fun", wide(59)), ONE], letter=0, kind=0)


if __name__ == "__main__":
    unittest.main()
