"""selfprint.kinds: [5], [6], [11], [12]."""

import random
import unittest

from helper import A, B, COUNT, ODD, Checks, deep, fun, pair, random_kind, sum_of, too_wide_by_right, wide
from selfprint.errors import InvalidKind, InvalidLetter, TooMany
from selfprint.kinds import is_data, is_kind, is_met, is_shown, kind_size, letters, put_kind

STEP = fun(A, A)
NO_KINDS = [value for value in ODD if value not in (A, B, COUNT)] + [
    list(A), ["count"], ["fun", A, A], ("fun", list(A), A), ("fun", A, list(A)), ("fun", A, (COUNT,)),
    ("fun", A, ("letter", 6)), ("pair", ("letter", False), A), ("letter", 10 ** 30), ("Fun", A, A), ("call", A, A),
    deep(13), wide(61), fun(deep(12), A), pair(wide(31), wide(29)), [A], (A, A), ("count", ()), ("letter",),
]


def a_double(kind, times):
    """The kind in a pair with itself, so often."""
    for _ in range(times):
        kind = pair(kind, kind)
    return kind


class WhatKindsAre(Checks):
    def test_kinds(self):
        for kind in [("letter", number) for number in range(6)] + [COUNT, STEP, pair(A, COUNT), sum_of(STEP, B)]:
            self.check(True, is_kind, value=kind)

    def test_no_kinds(self):
        for value in NO_KINDS:
            self.check(False, is_kind, value=value)

    def test_letters_from_0_to_5(self):
        self.check(True, is_kind, value=("letter", 0))
        self.check(True, is_kind, value=("letter", 5))
        self.check(False, is_kind, value=("letter", 6))
        self.check(False, is_kind, value=("letter", -1))
        self.check(False, is_kind, value=("letter", True))
        self.check(False, is_kind, value=fun(A, ("letter", False)))

    def test_signs(self):
        # Each kind has an odd number of signs, so the greatest kinds have 59.
        self.check(True, is_kind, value=wide(59))
        self.check(False, is_kind, value=wide(61))
        self.check(59, kind_size, kind=wide(59))
        self.check(False, is_kind, value=a_double(A, 11))

    def test_depth(self):
        for make in (fun, pair, sum_of):
            self.check(True, is_kind, value=make(deep(11), A))
            self.check(False, is_kind, value=make(deep(12), A))
            self.check(True, is_kind, value=make(A, deep(11)))
            self.check(False, is_kind, value=make(A, deep(12)))
        self.check(False, is_kind, value=too_wide_by_right(59))

    def test_values_forty_deep(self):
        self.check(False, is_kind, value=deep(40))
        self.assertIs(is_kind(a_double(A, 39)), False)
        nested = []
        for _ in range(39):
            nested = [nested]
        self.check(False, is_kind, value=nested)

    def test_a_bool_for_any_value(self):
        for value in ODD:
            self.assertIs(type(is_kind(value)), bool)


class ShownMetData(Checks):
    def judge(self, kind, shown, met, data):
        self.check(shown, is_shown, kind=kind)
        self.check(met, is_met, kind=kind)
        self.check(data, is_data, kind=kind)

    def test_letters_are_both(self):
        for number in range(6):
            self.judge(("letter", number), True, True, False)

    def test_counts(self):
        self.judge(COUNT, True, False, True)
        self.judge(fun(COUNT, A), False, True, False)
        self.judge(fun(A, COUNT), True, False, False)
        self.judge(fun(COUNT, COUNT), False, False, False)

    def test_pairs(self):
        self.judge(pair(A, B), True, True, False)
        self.judge(pair(COUNT, COUNT), True, False, True)
        self.judge(pair(A, COUNT), True, False, False)
        self.judge(pair(COUNT, A), True, False, False)
        self.judge(pair(fun(COUNT, A), A), False, True, False)
        self.judge(pair(A, fun(COUNT, A)), False, True, False)

    def test_a_sum_is_never_met(self):
        self.judge(sum_of(A, A), True, False, False)
        self.judge(sum_of(COUNT, pair(COUNT, COUNT)), True, False, True)
        self.judge(sum_of(COUNT, A), True, False, False)
        self.judge(sum_of(A, COUNT), True, False, False)
        self.judge(fun(sum_of(A, A), A), False, True, False)
        self.judge(sum_of(A, fun(COUNT, A)), False, False, False)
        self.judge(sum_of(fun(COUNT, A), A), False, False, False)

    def test_functions(self):
        self.judge(STEP, True, True, False)
        self.judge(fun(STEP, A), True, True, False)
        self.judge(fun(fun(A, COUNT), A), False, True, False)
        self.judge(fun(fun(COUNT, A), A), True, False, False)
        self.judge(fun(fun(COUNT, A), COUNT), True, False, False)
        self.judge(fun(A, fun(COUNT, A)), False, True, False)
        self.judge(pair(fun(A, sum_of(A, COUNT)), STEP), True, False, False)

    def test_letters_put_leave_data_as_it_is(self):
        rng = random.Random(1)
        for _ in range(400):
            kind, other = random_kind(rng, 4), random_kind(rng, 3)
            if is_data(kind) and is_shown(other):
                self.assertEqual(put_kind(kind, 0, other), kind)

    def test_a_shown_kind_need_not_stay_shown(self):
        self.check(True, is_shown, kind=STEP)
        self.check(False, is_shown, kind=put_kind(STEP, 0, COUNT))

    def test_errors(self):
        for function in (is_shown, is_met, is_data, kind_size, letters):
            self.check_invalid(InvalidKind, function, "kind", NO_KINDS, kind=None)


class SizesAndLetters(Checks):
    def test_sizes(self):
        for kind, signs in ((A, 1), (COUNT, 1), (STEP, 3), (fun(STEP, pair(B, A)), 7), (wide(59), 59), (deep(12), 23)):
            self.check(signs, kind_size, kind=kind)

    def test_letters(self):
        self.check([], letters, kind=pair(COUNT, COUNT))
        self.check([0], letters, kind=fun(STEP, STEP))
        self.check([1, 3, 5], letters, kind=fun(("letter", 5), sum_of(("letter", 3), pair(B, ("letter", 5)))))
        self.check([0, 1, 2, 3, 4, 5], letters, kind=pair(
            pair(("letter", 5), ("letter", 4)), pair(pair(("letter", 3), ("letter", 2)), pair(B, A))))


class LettersPut(Checks):
    def test_put(self):
        self.check(fun(COUNT, COUNT), put_kind, kind=STEP, letter=0, other=COUNT)
        self.check(STEP, put_kind, kind=STEP, letter=1, other=B)
        self.check(COUNT, put_kind, kind=COUNT, letter=0, other=STEP)
        self.check(sum_of(fun(STEP, B), STEP), put_kind, kind=sum_of(fun(A, B), A), letter=0, other=STEP)
        self.check(pair(A, STEP), put_kind, kind=pair(A, ("letter", 5)), letter=5, other=STEP)

    def test_what_was_put_is_not_put_in_again(self):
        self.check(pair(fun(A, B), B), put_kind, kind=pair(A, B), letter=0, other=fun(A, B))

    def test_a_letter_for_itself(self):
        rng = random.Random(2)
        for _ in range(100):
            kind = random_kind(rng, 5)
            for number in letters(kind):
                self.assertEqual(put_kind(kind, number, ("letter", number)), kind)

    def test_letters_of_what_comes(self):
        rng = random.Random(3)
        for _ in range(200):
            kind, other = random_kind(rng, 3), random_kind(rng, 3)
            made = put_kind(kind, 0, other)
            stay = [number for number in letters(kind) if number]
            come = letters(other) if 0 in letters(kind) else []
            self.assertEqual(letters(made), sorted(set(stay + come)))

    def test_too_many_signs(self):
        self.check(wide(59), put_kind, kind=A, letter=0, other=wide(59))
        self.check_error(TooMany, {"what": "signs", "limit": 60}, put_kind, kind=pair(A, A), letter=0, other=wide(31))
        self.assertEqual(kind_size(put_kind(pair(A, A), 0, wide(29))), 59)

    def test_too_deep(self):
        self.check(fun(A, deep(11)), put_kind, kind=fun(A, B), letter=1, other=deep(11))
        told = {"what": "depth", "limit": 12}
        self.check_error(TooMany, told, put_kind, kind=fun(A, B), letter=1, other=deep(12))
        self.check_error(TooMany, told, put_kind, kind=deep(12), letter=0, other=fun(COUNT, COUNT))

    def test_signs_ahead_of_depth(self):
        told = {"what": "signs", "limit": 60}
        self.check_error(TooMany, told, put_kind, kind=wide(59), letter=0, other=wide(59))
        self.check_error(TooMany, told, put_kind, kind=deep(12), letter=0, other=deep(12))

    def test_what_lacks_the_letter_cannot_grow(self):
        self.check(deep(12), put_kind, kind=deep(12), letter=5, other=deep(12))

    def test_invalid(self):
        self.check_invalid(InvalidKind, put_kind, "kind", NO_KINDS, kind=A, letter=0, other=A)
        self.check_invalid(InvalidKind, put_kind, "other", NO_KINDS, kind=A, letter=0, other=A)
        wrong = [-1, 6, 10 ** 30, True, False, None, "a", "0", (0,), [0], A, {}, ("letter", 0)]
        self.check_invalid(InvalidLetter, put_kind, "letter", wrong, kind=A, letter=0, other=A)
        for number in (0, 5):
            self.check(A, put_kind, kind=("letter", number), letter=number, other=A)

    def test_the_first_error_is_told(self):
        self.check_error(InvalidKind, {"value": 1}, put_kind, kind=1, letter=6, other=2)
        self.check_error(InvalidLetter, {"value": 6}, put_kind, kind=A, letter=6, other=2)
        self.check_error(InvalidKind, {"value": 2}, put_kind, kind=wide(59), letter=0, other=2)


if __name__ == "__main__":
    unittest.main()
