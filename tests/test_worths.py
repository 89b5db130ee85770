"""selfprint.worths: [45]."""

import random
import unittest

from helper import A, COUNT, ODD, Checks, fun, pair, random_data_kind, sum_of
from selfprint.checked import program_kind
from selfprint.errors import InvalidKind, InvalidWorth, NotData
from selfprint.forms import form
from selfprint.kinds import is_data
from selfprint.running import value_of
from selfprint.worths import data_term

NUMBERS = pair(COUNT, COUNT)
SIDES = sum_of(COUNT, NUMBERS)


def deep_data(many):
    """A data kind so many deep, and a worth of it and its plain term."""
    kind, worth, term = COUNT, 3, [("told", 3)]
    for place in range(many - 1):
        if place % 2:
            kind, worth, term = pair(COUNT, kind), ("both", place, worth), [("both",), ("told", place)] + term
        else:
            kind, worth, term = sum_of(COUNT, kind), ("right", worth), [("right", COUNT)] + term
    return kind, worth, term


def random_worth(rng, kind):
    if kind == COUNT:
        return rng.choice((0, 1, 7, 1000000))
    if kind[0] == "pair":
        return ("both", random_worth(rng, kind[1]), random_worth(rng, kind[2]))
    return ("left", random_worth(rng, kind[1])) if rng.randrange(2) else ("right", random_worth(rng, kind[2]))


class DataTerms(Checks):
    def test_each_sort(self):
        for count in (0, 1, 999999, 1000000):
            self.check([("told", count)], data_term, kind=COUNT, value=count)
        self.check([("both",), ("told", 4), ("told", 5)], data_term, kind=NUMBERS, value=("both", 4, 5))
        self.check([("left", NUMBERS), ("told", 4)], data_term, kind=SIDES, value=("left", 4))
        self.check([("right", COUNT), ("both",), ("told", 4), ("told", 0)], data_term, kind=SIDES,
                   value=("right", ("both", 4, 0)))
        self.check([("both",), ("both",), ("told", 1), ("told", 2), ("told", 3)], data_term, kind=pair(NUMBERS, COUNT),
                   value=("both", ("both", 1, 2), 3))

    def test_deep(self):
        for many in (1, 2, 5, 12):
            kind, worth, term = deep_data(many)
            self.check(term, data_term, kind=kind, value=worth)

    def test_it_is_a_plain_program_of_this_worth(self):
        rng = random.Random(41)
        for _ in range(60):
            kind = random_data_kind(rng, 4)
            worth = random_worth(rng, kind)
            term = data_term(kind, worth)
            self.assertEqual(program_kind(term), kind)
            self.assertEqual(form(term), term)
            self.assertEqual(value_of(term), worth)

    def test_not_data(self):
        for kind in (A, fun(COUNT, COUNT), pair(COUNT, A), sum_of(fun(COUNT, COUNT), COUNT), pair(COUNT, pair(COUNT, A))):
            self.check(False, is_data, kind=kind)
            for value in (0, ("both", 1, 1), None, "x", -1):
                self.check_error(NotData, {}, data_term, kind=kind, value=value)

    def test_invalid_worths(self):
        wrong = [value for value in ODD if value not in (0, 1, 7) or isinstance(value, bool)]
        self.assertIn(True, wrong)
        self.assertIn(False, wrong)
        wrong += [1000001, 10 ** 30, -1, ("told", 1), [1], (1,), ("count",), ("both", 1, 1), ("left", 1), ("right", 1)]
        self.check_invalid(InvalidWorth, data_term, "value", wrong, kind=COUNT, value=None)

    def test_invalid_pairs(self):
        wrong = ODD + [
            ["both", 1, 1], ("both", 1), ("both", 1, 1, 1), ("both",), ("pair", 1, 1), (1, 1), ("both", True, 1), ("both", 1, False),
            ("both", 1, 1000001), ("both", -1, 1), ("both", 1, "1"), ("both", 1, ("both", 1, 1)), ("left", 1), ("right", 1),
            ("left", ("both", 1, 1)), (["both"], 1, 1), (b"both", 1, 1), ("both", [1], 1), ("both", 1, None)]
        self.check_invalid(InvalidWorth, data_term, "value", wrong, kind=NUMBERS, value=None)

    def test_invalid_sides(self):
        wrong = ODD + [
            ["left", 1], ["right", ("both", 1, 1)], ("left",), ("left", 1, 1), ("right",), ("right", 1), ("left", ("both", 1, 1)),
            ("left", True), ("left", 1000001), ("right", ["both", 1, 1]), ("right", ("both", 1, True)), ("both", 1, 1), 1, ("sum", 1),
            ("Left", 1), (0, 1), (["left"], 1), ("left", COUNT), ("right", None), ("left", ("left", 1)), ("sum", ("both", 1, 1)),
            ("both", ("both", 1, 1)), ("", ("both", 1, 1)), (None, 1), (True, ("both", 1, 1))]
        self.check_invalid(InvalidWorth, data_term, "value", wrong, kind=SIDES, value=None)

    def test_worths_of_other_kinds(self):
        kinds = {COUNT: 7, NUMBERS: ("both", 7, 7), SIDES: ("left", 7), sum_of(NUMBERS, COUNT): ("right", 7),
                 pair(SIDES, COUNT): ("both", ("left", 7), 7), sum_of(COUNT, SIDES): ("right", ("left", 7))}
        for kind in kinds:
            for other, worth in kinds.items():
                # Alone ("left", 7) is a worth of two of these kinds.
                if kind == other or (kind, other) == (sum_of(COUNT, SIDES), SIDES):
                    self.assertEqual(value_of(data_term(kind, worth)), worth)
                else:
                    self.check_error(InvalidWorth, {"value": worth}, data_term, kind=kind, value=worth)

    def test_invalid_kinds(self):
        self.check_invalid(InvalidKind, data_term, "kind", [k for k in ODD if k != COUNT], kind=None, value=0)

    def test_the_first_error_is_told(self):
        self.check_error(InvalidKind, {"value": 0}, data_term, kind=0, value=None)
        self.check_error(NotData, {}, data_term, kind=A, value=None)
        self.check_error(InvalidWorth, {"value": None}, data_term, kind=COUNT, value=None)


if __name__ == "__main__":
    unittest.main()
