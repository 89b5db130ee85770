"""selfprint.codes: [61] to [63], and [67]."""

import random
import unittest

from helper import (
    A, B, COUNT, ODD, Checks, changed_code, deep, fun, is_plainly_right, moved, pair, plain_decompiled, random_programs,
    shown_programs, sum_of, wide)
from selfprint.codes import code_kind, is_code, shaken
from selfprint.compiler import compiled
from selfprint.decompiler import decompiled
from selfprint.errors import InvalidCode, TooMany
from selfprint.orders import code_calls, run_code

AA = fun(A, A)
EIGHT = ([], [], COUNT, [("told", 8)])
GIVEN = ([], [A], A, [("given",)])
# A right one with orders of all names.
ALL = [
    ([], [], COUNT, [("make", 3, []), ("told", 8), ("next",), ("told", 1), ("both",), ("first",), ("left", A), ("make", 1, []),
                     ("make", 2, []), ("which",), ("call",), ("told", 2), ("make", 5, []), ("turns",)]),
    ([], [COUNT], COUNT, [("given",)]),
    ([], [A], COUNT, [("told", 1), ("right", A), ("make", 4, [("given",)]), ("make", 5, []), ("which",)]),
    ([], [COUNT], COUNT, [("make", 6, [("given",), ("given",)]), ("given",), ("call",)]),
    ([A], [A], COUNT, [("told", 4)]),
    ([], [COUNT], COUNT, [("given",), ("next",)]),
    ([COUNT, COUNT], [COUNT], COUNT, [("slot", 1), ("slot", 0), ("told", 0), ("make", 7, [("slot", 1), ("given",)]), ("turns",),
                                      ("both",), ("second",)]),
    ([COUNT, COUNT], [COUNT], COUNT, [("slot", 1)]),
]
# Values that are equal to their copies.
PLAIN_ODD = [value for value in ODD if type(value) is not object]


def with_entry(entry, *more):
    """A code whose entry 1 is this, and whose others are right if those behind are."""
    return [EIGHT, entry, *more]


def with_orders(kinds, given, tells, orders, *more):
    """A code whose entry 1 puts worths of these kinds on the stack, and does these orders then."""
    slots = [("slot", place) for place in range(len(kinds))]
    return with_entry((list(kinds), [given], tells, slots + list(orders)), *more)


class IsCode(Checks):
    def right(self, *codes):
        for code in codes:
            self.check(True, is_code, value=code)

    def wrong(self, *values):
        for value in values:
            self.check(False, is_code, value=value)

    def test_any_value(self):
        self.wrong(*ODD)
        self.wrong(*[[value] for value in PLAIN_ODD], *[[EIGHT, value] for value in PLAIN_ODD])
        self.right([EIGHT], [EIGHT, GIVEN], ALL)

    def test_any_value_within(self):
        for place in range(4):
            for value in PLAIN_ODD:
                entry = ([A], [A], A, [("given",)])
                made = with_entry(entry[:place] + (value,) + entry[place + 1:])
                is_right = value in ([], (), (COUNT,)) and place == 0
                self.check(is_right, is_code, value=made)
                self.wrong(with_entry(entry[:3] + ([("given",), value],)))
                self.wrong(with_entry(entry[:3] + ([("given",), ("left", value), ("told", 1), ("both",), ("second",)],)))
                if value not in (A, B, COUNT):
                    self.wrong(with_entry(([value], [A], A, [("given",)])), with_entry(([], [value], A, [("given",)])))

    def test_numbers_within(self):
        for value in PLAIN_ODD:
            if isinstance(value, bool) or not isinstance(value, int):
                self.wrong([([], [], COUNT, [("told", value)])], with_entry(([A, A], [A], A, [("slot", value)])))
                self.wrong([([], [], AA, [("make", value, [])]), GIVEN])
                self.wrong([([], [], AA, [("make", 1, value)]), GIVEN] if value not in ([], ()) else None)
                self.wrong([([], [], AA, [("make", 1, [value])]), GIVEN])
        self.right([([], [], COUNT, [("told", 0)])], [([], [], COUNT, [("told", 1000000)])])
        self.wrong([([], [], COUNT, [("told", -1)])], [([], [], COUNT, [("told", 1000001)])], [([], [], COUNT, [("told", 10 ** 30)])])

    def test_tuples_and_lists(self):
        slots, given, kind, orders = [A], [A], A, [("slot", 0), ("make", 2, [("given",), ("slot", 0)]), ("both",), ("first",)]
        last = ([A, A], [A], A, [("given",)])
        self.right(with_entry((slots, given, kind, orders), last), tuple(with_entry((slots, given, kind, orders), last)))
        self.right(with_entry((tuple(slots), given, kind, orders), last), with_entry((slots, tuple(given), kind, orders), last))
        self.right(with_entry((slots, given, kind, tuple(orders)), last))
        turned = [(*order[:2], tuple(order[2])) if order[0] == "make" else order for order in orders]
        self.right(with_entry((slots, given, kind, turned), last))
        self.right([((), (), COUNT, (("told", 8),))], (((), (), COUNT, (("told", 8),)),))
        self.wrong(with_entry([slots, given, kind, orders], last), with_entry((slots, given, list(kind), orders), last))
        self.wrong([list(EIGHT)], EIGHT, {0: EIGHT}, [{0: EIGHT}])
        for place in range(len(orders)):
            listed = orders[:place] + [list(orders[place])] + orders[place + 1:]
            self.wrong(with_entry((slots, given, kind, listed), last))
        listed = [(*order[:2], [list(one) for one in order[2]]) if order[0] == "make" else order for order in orders]
        self.wrong(with_entry((slots, given, kind, listed), last))

    def test_how_many_parts(self):
        self.wrong([EIGHT[:3]], [EIGHT + ([],)], [()])
        for order in (("told",), ("told", 8, 8), (), ("make", 1), ("make", 1, [], []), ("given", 0), ("slot",), ("slot", 0, 0),
                      ("next", 1), ("call", 0), ("left",), ("left", A, A), ("name", 0), ("fun", A), ("let",), ("turns", A), ("Told", 8)):
            for orders in ([order], [("told", 8), order], [order, ("told", 8)]):
                self.wrong([([], [], COUNT, orders)], with_entry(([A], [A], COUNT, orders)))

    def test_entries(self):
        self.wrong([], ())
        for many in (1, 2, 299, 300):
            self.right([EIGHT] + [GIVEN] * (many - 1))
        self.wrong([EIGHT] + [GIVEN] * 300, [EIGHT] + [GIVEN] * 398)

    def test_entry_0_has_no_slots_and_no_given(self):
        self.wrong([([A], [], COUNT, [("told", 8)])], [([], [A], COUNT, [("told", 8)])], [([A], [A], COUNT, [("told", 8)])])
        self.wrong([GIVEN], [GIVEN, GIVEN], [([], [A, A], COUNT, [("told", 8)])])

    def test_other_entries_have_one_given(self):
        self.wrong(with_entry(([], [], COUNT, [("told", 8)])), with_entry(([], [A, A], COUNT, [("told", 8)])))
        self.wrong(with_entry(([A], [], A, [("slot", 0)])), with_entry(([], [A] * 3, A, [("given",)])))
        self.right(with_entry(([], [A], COUNT, [("told", 8)])), with_entry(([A], [B], A, [("slot", 0)])))

    def test_slots(self):
        for many in (0, 1, 59, 60):
            self.right(with_entry(([A] * many, [A], A, [("given",)])))
        for many in (61, 62, 399):
            self.wrong(with_entry(([A] * many, [A], A, [("given",)])))
        self.right(with_entry(([A] * 60, [B], A, [("slot", 59)])))
        self.wrong(with_entry(([A] * 60, [B], A, [("slot", 60)])), with_entry(([], [A], A, [("slot", 0)])))
        self.wrong(with_entry(([A], [A], A, [("slot", 10 ** 30)])), with_entry(([A], [A], A, [("slot", -1)])))

    def test_how_many_orders(self):
        self.wrong([([], [], COUNT, [])], with_entry(([], [A], A, [])))
        for many in (1, 2, 399, 400):
            self.right([([], [], COUNT, [("told", 8)] + [("next",)] * (many - 1))])
            self.right(with_entry(([], [COUNT], COUNT, [("given",)] + [("next",)] * (many - 1))))
        self.wrong([([], [], COUNT, [("told", 8)] + [("next",)] * 400)])
        self.wrong(with_entry(([], [COUNT], COUNT, [("given",)] + [("next",)] * 400)))

    def test_makes_are_of_later_entries(self):
        for entry, is_right in ((0, False), (1, False), (2, True), (3, True), (4, False), (300, False), (10 ** 30, False)):
            made = with_entry(([], [A], AA, [("make", entry, [])]), GIVEN, GIVEN)
            self.check(is_right, is_code, value=made)
        self.wrong([([], [], AA, [("make", 1, [])])], [([], [], COUNT, [("told", 8), ("make", 0, []), ("both",), ("first",)])])

    def test_sources(self):
        last = ([A, B], [A], A, [("slot", 0)])
        for sources, is_right in (
                ([("slot", 0), ("given",)], True), ([("given",), ("slot", 0)], False), ([], False), ([("slot", 0)], False),
                ([("slot", 0), ("given",), ("given",)], False), ([("slot", 0), ("slot", 0)], False), ([("given",), ("given",)], False),
                ([("slot", 0), ("slot", 1)], False), ([("slot", 2), ("given",)], True), ([("slot", 0), ("slot", 3)], True),
                ([("slot", 4), ("given",)], False), ([("told", 1), ("given",)], False), ([("slot", 0), ("make", 2, [])], False)):
            made = with_entry(([A, A, A, B], [B], AA, [("make", 2, sources)]), last)
            self.check(is_right, is_code, value=made)
        self.wrong([([], [], AA, [("make", 1, [("given",)])]), ([A], [A], A, [("given",)])])
        self.wrong([([], [], AA, [("make", 1, [("slot", 0)])]), ([A], [A], A, [("given",)])])
        self.wrong([([], [], AA, [("make", 1, [("told", 1)])]), ([COUNT], [A], A, [("given",)])])

    def test_the_end_of_an_entry(self):
        self.wrong([([], [], COUNT, [("told", 8), ("told", 8)])], [([], [], A, [("told", 8)])], [([], [], pair(COUNT, COUNT), [("told", 8)])])
        self.wrong(with_entry(([], [A], B, [("given",)])), with_entry(([], [A], A, [("given",), ("given",)])))
        self.wrong(with_entry(([], [A], AA, [("make", 2, [])]), ([], [A], B, [("told", 1)])))
        # One entry that is wrong is enough, reached or not.
        self.wrong([EIGHT, GIVEN, GIVEN, ([], [A], B, [("given",)])])


# For each order: the kinds that it takes, and the kind that it tells.
TAKES = [
    (("next",), [COUNT], COUNT),
    (("both",), [A, B], pair(A, B)),
    (("first",), [pair(A, B)], A),
    (("second",), [pair(A, B)], B),
    (("left", B), [A], sum_of(A, B)),
    (("right", B), [A], sum_of(B, A)),
    (("call",), [fun(A, B), A], B),
    (("which",), [sum_of(A, B), fun(A, COUNT), fun(B, COUNT)], COUNT),
    (("turns",), [COUNT, A, AA], A),
    (("turns",), [COUNT, fun(A, B), fun(fun(A, B), fun(A, B))], fun(A, B)),
]
OTHERS = [A, B, COUNT, AA, fun(A, B), fun(B, A), fun(A, COUNT), fun(COUNT, A), pair(A, B), pair(B, A), sum_of(A, B), sum_of(B, A),
          fun(sum_of(A, B), A), pair(COUNT, COUNT), sum_of(A, A), sum_of(B, B), fun(B, COUNT), fun(COUNT, COUNT), fun(fun(A, B), A),
          fun(fun(A, B), fun(A, B))]


class Orders(Checks):
    def test_each_order(self):
        for order, kinds, told in TAKES:
            self.check(True, is_code, value=with_orders(kinds, COUNT, told, [order]))
            for kind in OTHERS:
                self.check(kind == told, is_code, value=with_orders(kinds, COUNT, kind, [order]))

    def test_too_few(self):
        for order, kinds, told in TAKES:
            for place in range(len(kinds)):
                fewer = kinds[:place] + kinds[place + 1:]
                self.check(False, is_code, value=with_orders(fewer, COUNT, told, [order]))
            self.check(False, is_code, value=with_orders([], COUNT, told, [order]))
            self.check(False, is_code, value=[([], [], told, [order])])

    def test_too_many(self):
        for order, kinds, told in TAKES:
            for kind in (A, COUNT):
                self.check(False, is_code, value=with_orders([kind] + kinds, COUNT, told, [order]))
                self.check(True, is_code, value=with_orders([kind] + kinds, COUNT, told, [order, ("both",), ("second",)]))

    def test_of_other_kinds(self):
        for order, kinds, told in TAKES:
            for place in range(len(kinds)):
                for other in OTHERS:
                    changed = kinds[:place] + [other] + kinds[place + 1:]
                    made = with_orders(changed, COUNT, told, [order])
                    self.check(is_plainly_right(made), is_code, value=made)
            turned = with_orders(kinds[::-1], COUNT, told, [order])
            self.check(is_plainly_right(turned), is_code, value=turned)

    def test_given_and_told(self):
        self.check(True, is_code, value=with_orders([], B, B, [("given",)]))
        self.check(False, is_code, value=with_orders([], B, A, [("given",)]))
        self.check(False, is_code, value=[([], [], A, [("given",)])])
        self.check(True, is_code, value=with_orders([], B, COUNT, [("told", 1)]))
        self.check(False, is_code, value=with_orders([], COUNT, A, [("told", 1)]))

    def test_kinds_too_great(self):
        # What would be too great is gone again at the end.
        for kind, other, is_right in ((wide(29), wide(29), True), (wide(31), wide(29), False), (wide(29), wide(31), False),
                                      (deep(11), A, True), (A, deep(11), True), (deep(12), A, False), (A, deep(12), False)):
            self.check(is_right, is_code, value=with_orders([kind, other], COUNT, kind, [("both",), ("first",)]))
            self.check(is_right, is_code, value=with_orders([kind, other], COUNT, other, [("both",), ("second",)]))
            if A not in (kind, other):
                arms = [fun(kind, COUNT), fun(other, COUNT)]
                for start, side in ((kind, ("left", other)), (other, ("right", kind))):
                    orders = [("slot", 0), side, ("slot", 1), ("slot", 2), ("which",)]
                    self.check(is_right, is_code, value=with_entry(([start] + arms, [A], COUNT, orders)))
            else:
                self.check(is_right, is_code, value=with_orders([kind], COUNT, sum_of(kind, other), [("left", other)]))
                self.check(is_right, is_code, value=with_orders([other], COUNT, sum_of(kind, other), [("right", kind)]))

    def test_made_ones_too_great(self):
        for taken, told, is_right in ((wide(29), wide(29), True), (wide(31), wide(29), False), (wide(29), wide(31), False),
                                      (deep(11), COUNT, True), (deep(12), COUNT, False), (COUNT, deep(11), True), (COUNT, deep(12), False)):
            last = ([told], [taken], told, [("slot", 0)])
            maker = ([told, taken], [A], told, [("make", 2, [("slot", 0)]), ("slot", 1), ("call",)])
            self.check(is_right, is_code, value=with_entry(maker, last))
            # If nobody makes one of it, there is no kind that is too great.
            self.check(True, is_code, value=[EIGHT, last])

    def test_random_ones(self):
        rng = random.Random(64)
        met = {True: 0, False: 0}
        for program in random_programs(rng, 120, 3, 60):
            try:
                code = compiled(program)
            except TooMany:
                continue
            self.assertTrue(is_code(code))
            self.assertTrue(is_code(changed_code(rng, code)))
            for _ in range(12):
                made = broken(rng, code)
                met[is_plainly_right(made)] += 1
                self.assertEqual(is_code(made), is_plainly_right(made), made)
        self.assertGreater(min(met.values()), 80)


def broken(rng, code):
    """The code with one thing changed, so that its things still are of the forms that codes have."""
    position = rng.randrange(len(code))
    slots, given, kind, orders = code[position]
    others = [order for entry in code for order in entry[3]] + [("told", 1), ("next",), ("both",), ("first",), ("call",), ("slot", 0)]
    place = rng.randrange(len(orders))
    way = rng.randrange(5)
    if way == 0:
        orders = orders[:place] + [rng.choice(others)] + orders[place + 1:]
    elif way == 1:
        orders = orders[:place] + [rng.choice(others)] + orders[place:]
    elif way == 2 and len(orders) > 1:
        orders = orders[:place] + orders[place + 1:]
    elif way == 3:
        kind = rng.choice([entry[2] for entry in code])
    elif slots:
        slots = slots[1:] + slots[:1]
    return code[:position] + [(slots, given, kind, orders)] + code[position + 1:]


class CodeKind(Checks):
    def test_kinds(self):
        self.check(COUNT, code_kind, code=[EIGHT])
        self.check(COUNT, code_kind, code=ALL)
        self.check(AA, code_kind, code=[([], [], AA, [("make", 1, [])]), GIVEN])
        self.check(AA, code_kind, code=(((), (), AA, (("make", 1, ()),)), GIVEN))

    def test_no_codes(self):
        wrong = ODD + [[GIVEN], [EIGHT] * 2, [([], [], A, [("told", 8)])], [([], [], COUNT, [("told", True)])]]
        for function in (code_kind, shaken):
            self.check_invalid(InvalidCode, function, "code", wrong, code=None)


class Shaken(Checks):
    def test_entries_that_no_order_reaches(self):
        self.check([EIGHT], shaken, code=[EIGHT])
        self.check([EIGHT], shaken, code=[EIGHT, GIVEN, GIVEN])
        self.check([EIGHT], shaken, code=(EIGHT, GIVEN))
        # Entry 1 makes entry 2, but none makes entry 1.
        self.check([EIGHT], shaken, code=with_entry(([], [A], AA, [("make", 2, [])]), GIVEN))

    def test_positions_told_anew(self):
        def maker(entry, sources=()):
            return ([], [A], AA, [("make", entry, list(sources))])

        start = ([], [], fun(A, AA), [("make", 2, [])])
        code = [start, GIVEN, maker(5), GIVEN, maker(5), GIVEN, GIVEN]
        self.check([([], [], fun(A, AA), [("make", 1, [])]), maker(2), GIVEN], shaken, code=code)
        twice = ([], [], pair(AA, AA), [("make", 3, []), ("make", 1, []), ("both",)])
        self.check([twice[:3] + ([("make", 2, []), ("make", 1, []), ("both",)],), GIVEN, GIVEN], shaken,
                   code=[twice, GIVEN, GIVEN, GIVEN, GIVEN])

    def test_slots_and_sources_stay(self):
        inner = ([B, A], [A], A, [("slot", 1)])
        outer = ([A], [B], AA, [("make", 4, [("given",), ("slot", 0)])])
        start = ([], [A], fun(B, AA), [("make", 3, [("given",)])])
        first = ([], [], fun(A, fun(B, AA)), [("make", 1, [])])
        code = [first, start, GIVEN, outer, inner]
        wanted = [first, (*start[:3], [("make", 2, [("given",)])]), (*outer[:3], [("make", 3, [("given",), ("slot", 0)])]), inner]
        self.check(wanted, shaken, code=code)
        # What is told as a tuple comes as a list.
        tupled = [tuple(tuple(one) if isinstance(one, list) else one for one in entry) for entry in code]
        tupled = [(*entry[:3], tuple((*order[:2], tuple(order[2])) if order[0] == "make" else order for order in entry[3])) for entry in tupled]
        self.check(wanted, shaken, code=tuple(tupled))

    def test_all_reached(self):
        self.check(ALL, shaken, code=ALL)
        rng = random.Random(65)
        for program in random_programs(rng, 60, 3, 60):
            code = compiled(program)
            self.check(code, shaken, code=code)

    def test_reached_by_unreached_ones(self):
        # Entries that only such ones make are not reached, though they stand behind reached ones.
        code = [([], [], AA, [("make", 2, [])]), ([], [A], AA, [("make", 3, [])]), GIVEN, GIVEN]
        self.check([([], [], AA, [("make", 1, [])]), GIVEN], shaken, code=code)

    def test_a_long_row(self):
        code = [([], [], deep(2), [("make", 1, [])])] + [([], [A], A, [("make", place + 2, []), ("given",), ("call",)]) for place in range(298)]
        code.append(GIVEN)
        self.check(code, shaken, code=code)
        self.check([code[0][:3] + ([("make", 1, [])],), GIVEN], shaken, code=[(*code[0][:3], [("make", 299, [])])] + code[1:])

    def test_worth_calls_and_print_stay(self):
        rng = random.Random(66)
        shook = 0
        for program in shown_programs(rng, 60, 3, 60):
            code = changed_code(rng, compiled(program))
            # Entries that nobody makes, at any place.
            for _ in range(3):
                place = rng.randrange(1, len(code) + 1)
                code = moved(code, place, 1)
                code.insert(place, rng.choice([GIVEN, ([A, B], [COUNT], A, [("slot", 0)])]))
            self.assertTrue(is_code(code))
            made = shaken(code)
            shook += len(made) < len(code)
            self.assertTrue(is_code(made))
            self.assertEqual(plain_decompiled(made), plain_decompiled(code))
            self.assertEqual(decompiled(made), decompiled(code))
            self.assertEqual(code_calls(made), code_calls(code))
            self.assertEqual(shaken(made), made)
        self.assertEqual(shook, 60)
        self.assertEqual(run_code(shaken(ALL)), run_code(ALL))


if __name__ == "__main__":
    unittest.main()
