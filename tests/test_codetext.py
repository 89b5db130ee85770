"""selfprint.codetext: [68]."""

import random
import unittest

from helper import (
    A, B, COUNT, ODD, Checks, changed_code, deep, fun, pair, random_data_programs, random_programs, same, sum_of, wide)
from selfprint.codes import is_code
from selfprint.codetext import code_text, read_code
from selfprint.compiler import compiled
from selfprint.errors import BadEntry, BadText, InvalidCode, InvalidText, TooMany
from selfprint.printer import write_kind
from selfprint.reader import read_program

AA = fun(A, A)
EIGHT = "entry 0\ntells count\n  told 8"
GIVEN = "given a\ntells a\n  given"
# A code with each sort of rows, and its text.
TEXT = """entry 0
tells count
  make 3
  told 8
  next
  told 1
  both
  first
  left[a > b]
  make 1
  make 2
  which
  call
  told 1000000
  make 4
  turns
entry 1
given count
tells count
  make 5: given
  told 0
  call
entry 2
given a > b
tells count
  told 0
  right[(a + b) * a]
  make 6
  make 4
  which
entry 3
given count
tells count
  make 7: given
  given
  call
entry 4
given count
tells count
  given
  next
entry 5
slot count
given count
tells count
  slot 0
  make 8: given, slot 0
  told 3
  call
  both
  second
entry 6
given (a + b) * a
tells count
  told 12
entry 7
slot count
given count
tells count
  slot 0
entry 8
slot count
slot count
given count
tells count
  slot 1"""
CODE = [
    ([], [], COUNT, [("make", 3, []), ("told", 8), ("next",), ("told", 1), ("both",), ("first",), ("left", fun(A, B)), ("make", 1, []),
                     ("make", 2, []), ("which",), ("call",), ("told", 1000000), ("make", 4, []), ("turns",)]),
    ([], [COUNT], COUNT, [("make", 5, [("given",)]), ("told", 0), ("call",)]),
    ([], [fun(A, B)], COUNT, [("told", 0), ("right", pair(sum_of(A, B), A)), ("make", 6, []), ("make", 4, []), ("which",)]),
    ([], [COUNT], COUNT, [("make", 7, [("given",)]), ("given",), ("call",)]),
    ([], [COUNT], COUNT, [("given",), ("next",)]),
    ([COUNT], [COUNT], COUNT, [("slot", 0), ("make", 8, [("given",), ("slot", 0)]), ("told", 3), ("call",), ("both",), ("second",)]),
    ([], [pair(sum_of(A, B), A)], COUNT, [("told", 12)]),
    ([COUNT], [COUNT], COUNT, [("slot", 0)]),
    ([COUNT, COUNT], [COUNT], COUNT, [("slot", 1)]),
]


class Written(Checks):
    def test_each_sort_of_row(self):
        self.assertTrue(is_code(CODE))
        self.check(TEXT, code_text, code=CODE)
        self.check(CODE, read_code, text=TEXT)
        tupled = tuple((tuple(slots), tuple(given), kind, tuple((*order[:2], tuple(order[2])) if order[0] == "make" else order for order in orders))
                       for slots, given, kind, orders in CODE)
        self.check(TEXT, code_text, code=tupled)

    def test_by_hand(self):
        twice = compiled(read_program("fun f : a > a. fun x : b. f"))
        text = ("entry 0\ntells (a > a) > b > a > a\n  make 1\nentry 1\ngiven a > a\ntells b > a > a\n  make 2: given\n"
                "entry 2\nslot a > a\ngiven b\ntells a > a\n  slot 0")
        self.check(text, code_text, code=twice)
        self.check(twice, read_code, text=text)

    def test_numbers_of_many_figures(self):
        code = [([], [], AA, [("make", 11, [])])] + [([], [A], A, [("given",)])] * 11
        text = code_text(code)
        self.assertIn("\n  make 11\n", text)
        self.assertIn("\nentry 10\n", text)
        self.check(code, read_code, text=text)
        slots = ([A] * 12, [A], A, [("slot", 10), ("make", 2, [("slot", 11), ("given",), ("slot", 0)]), ("both",), ("first",)])
        code = [([], [], COUNT, [("told", 8)]), slots, ([A, A, A], [B], B, [("given",)])]
        self.assertIn("\n  slot 10\n  make 2: slot 11, given, slot 0\n", code_text(code))
        self.check(code, read_code, text=code_text(code))

    def test_told_once_more(self):
        rng = random.Random(76)
        programs = random_programs(rng, 100, 3, 60) + random_data_programs(rng, 50, 3, 60)
        for program in programs:
            for code in (compiled(program), changed_code(rng, compiled(program))):
                wanted = plain_text(code)
                if len(wanted) > 8000:
                    self.check_error(TooMany, {"what": "text", "limit": 8000}, code_text, code=code)
                    continue
                self.assertEqual(code_text(code), wanted)
                self.assertTrue(same(read_code(wanted), code))

    def test_length(self):
        for kind in (A, fun(A, B), fun(A, pair(A, B)), fun(A, sum_of(pair(B, B), COUNT)), deep(8), wide(59)):
            for many in range(20, 300):
                code = [([], [], COUNT, [("told", 8)])] + [([], [kind], COUNT, [("told", 0)])] * many
                size = len(plain_text(code))
                if size > 7990:
                    break
            self.in_steps(code, size)

    def in_steps(self, code, size):
        """Codes of texts that are longer and longer, up to 8,003 signs, by counts of more figures."""
        if size > 8000:
            code = code[:-1]
            size = len(plain_text(code))
        self.assertLessEqual(size, 8000)
        for figures in range(8004 - size):
            changed = list(code)
            for place in range(1, 1 + figures // 6):
                changed[place] = (*code[place][:3], [("told", 10 ** 6)])
            place = 1 + figures // 6
            changed[place] = (*code[place][:3], [("told", 10 ** (figures % 6))] if figures % 6 else code[place][3])
            wanted = plain_text(changed)
            self.assertEqual(len(wanted), size + figures)
            if len(wanted) <= 8000:
                self.assertEqual(code_text(changed), wanted)
            else:
                self.check_error(TooMany, {"what": "text", "limit": 8000}, code_text, code=changed)
            if figures in (0, 8000 - size):
                self.assertEqual(read_code(wanted), changed)

    def test_no_codes(self):
        wrong = ODD + [[([], [A], A, [("given",)])], [([], [], COUNT, [("told", True)])]]
        self.check_invalid(InvalidCode, code_text, "code", wrong, code=None)


def plain_text(code):
    """[68] told once more."""
    def plain_order(order):
        if order[0] in ("left", "right"):
            return f"{order[0]}[{write_kind(order[1])}]"
        text = " ".join(str(part) for part in order[:2])
        return text + (": " + ", ".join(plain_order(source) for source in order[2]) if order[2:] and order[2] else "")

    rows = []
    for position, (slots, given, kind, orders) in enumerate(code):
        rows.append(f"entry {position}")
        for name, kinds in (("slot", slots), ("given", given), ("tells", [kind])):
            rows += [f"{name} {write_kind(one)}" for one in kinds]
        rows += ["  " + plain_order(order) for order in orders]
    return "\n".join(rows)


# Rows that are none as told, wherever they stand.
WRONG_ROWS = """
| |  |   |entry|entry |entry x|entry -1|entry 00|entry 01|entry 1 |entry  1| entry 1|Entry 1|entry1|entry a|entries 1
slot|slot |slot 0|slot g|slot aa|slot count > |slot (a)|slot a>a|slot a > a | slot a|slot  a|slot a*b|slot x0|slot ((a)) > b|Slot a
given|given |given 1|given (a > a)|given a  > a|given  a|given count count|givena
tells|tells |tells 1|tells (a)|tells a >a|tells a > (a > a)|tells (a * a) * a|tells a + b + |tells  a|tell a|tells a # b|tells left
  told|  told |  told a|  told -1|  told 01|  told 00|  told 1 |  told  1|   told 1| told 1|told 1|  told 1 1|  told 1.|  told +1|  told1
  slot|  slot |  slot a|  slot 00|  slot 01|  slot  0|  slot 0 |  slot -1|  slot 0 0|   slot 0
  given |  given 0|  given a|   given| given|  Given|  next 1|  next |   next|next|  nexts|  both 0|both|  first x|  second |  call 2|  call:
  which | which|which|  which 1|  turns 3|  turns a|turns|  turns |  let|  name 0|  fun a|  order|  tells a|  entry 1|  make: given
  left|  left |  left a|  left [a]|  left[a|  left[]|  left[ a]|  left[a ]|  left[a] |  left[(a)]|  left[g]|  left[a>b]|  left[a]]|  left[[a]]|   left[a]|  left[aa|  left[a)|  left[a b
  right|  right a|  right [a]|  right[b|  right]|  right[a] 0|  right[A]|  right[0]|right[a]|  rightt[a]|  Right[a]|  both[a]|  [a]|  right[bb|  right[(a)|  right[a > bb
  make|  make |  make a|  make 01|  make 00|  make 1:|  make 1: |  make 1:given|  make 1 given|  make 1 : given|  make 1:  given|  make :
  make 1: x|  make 1: slot|  make 1: slot a|  make 1: slot 00|  make 1: given,|  make 1: given, |  make 1: given,given|  make 1: given , given
  make 1: given,  given|  make 1: , given|  make 1: told 1|  make 1: next|  make 1: make 2|  make 1: make 2: given|  make 1: left[a]|  make 1: slot 0 0
  make 1: given: given|  make 1: given;|  make 1: slot 0,slot 1|   make 1|  make  1|  make -1|make 1|  make 1: Given|  make 1: slot 0. given
# remark|  # remark|  told 1 # remark|  told 1#|a|0|8|x|entry 0 # first
"""
WRONG_ROWS = [row for line in WRONG_ROWS.strip("\n").split("\n") for row in line.split("|")]
# Kinds that are too great to be any, in rows and in orders.
GREAT_KINDS = [" > ".join("a" * 31), f"({write_kind(wide(59))}) * a", " > ".join("a" * 13), "(" * 41 + "a" + ")" * 41]


class Read(Checks):
    def bad(self, spot, text):
        self.check_error(BadText, {"spot": spot}, read_code, text=text)

    def test_texts(self):
        self.check([([], [], COUNT, [("told", 8)])], read_code, text=EIGHT)
        self.check([([], [], COUNT, [("told", 8)]), ([], [A], A, [("given",)])], read_code, text=EIGHT + "\nentry 1\n" + GIVEN)

    def test_no_texts(self):
        wrong = [value for value in ODD if not isinstance(value, str)]
        self.check_invalid(InvalidText, read_code, "text", wrong, text=None)
        for text in [value for value in ODD if isinstance(value, str)]:
            self.bad(0, text)

    def test_wrong_rows_anywhere(self):
        rows = TEXT.split("\n")
        for wrong in WRONG_ROWS:
            for place in (0, 1, 2, 3, len(rows) - 5, len(rows) - 4, len(rows) - 3, len(rows) - 2, len(rows) - 1):
                ahead = "".join(row + "\n" for row in rows[:place])
                self.bad(len(ahead), ahead + wrong)
                self.bad(len(ahead), ahead + "\n".join([wrong] + rows[place:]))
                self.bad(len(ahead), ahead + "\n".join([wrong] + rows[place + 1:]))
                self.bad(len(ahead), ahead + wrong + "\n" + wrong)

    def test_kinds_that_are_too_great(self):
        for kind in GREAT_KINDS:
            for wrong, ahead in ((f"tells {kind}", "entry 0\n"), (f"given {kind}", EIGHT + "\nentry 1\n"),
                                 (f"slot {kind}", EIGHT + "\nentry 1\n"), (f"  left[{kind}]", EIGHT + "\n"), (f"  right[{kind}]", EIGHT + "\n")):
                self.bad(len(ahead), ahead + wrong)
                self.bad(len(ahead), ahead + wrong + "\n  given")

    def test_positions_as_they_come(self):
        for first in (1, 2, 10):
            self.bad(0, EIGHT.replace("entry 0", f"entry {first}"))
        ahead = EIGHT + "\n"
        for second in (0, 2, 3, 11, 10 ** 30):
            self.bad(len(ahead), f"{ahead}entry {second}\n{GIVEN}")
        ahead = f"{EIGHT}\nentry 1\n{GIVEN}\n"
        for third in (0, 1, 3, 20):
            self.bad(len(ahead), f"{ahead}entry {third}\n{GIVEN}")

    def test_rows_in_a_wrong_sequence(self):
        # Which rows can stand behind some others, of entry 0 and of a later one.
        rows = {"entry": "entry {}", "slot": "slot a", "given": "given a", "tells": "tells count", "order": "  told 8"}
        ways = [
            ([], ["entry"]), (["entry"], ["tells"]), (["entry", "tells"], ["order"]), (["entry", "tells", "order"], ["order", "entry"]),
            (["entry", "tells", "order", "order"], ["order", "entry"]), (["entry", "tells", "order", "entry"], ["slot", "given"]),
            (["entry", "tells", "order", "entry", "slot"], ["slot", "given"]),
            (["entry", "tells", "order", "entry", "slot", "slot"], ["slot", "given"]),
            (["entry", "tells", "order", "entry", "given"], ["tells"]), (["entry", "tells", "order", "entry", "slot", "given"], ["tells"]),
            (["entry", "tells", "order", "entry", "given", "tells"], ["order"]),
            (["entry", "tells", "order", "entry", "given", "tells", "order"], ["order", "entry"]),
        ]
        for names, right in ways:
            ahead = "".join(rows[name].format(names[:place].count("entry")) + "\n" for place, name in enumerate(names))
            for name, row in rows.items():
                text = ahead + row.format(names.count("entry"))
                if name not in right:
                    self.bad(len(ahead), text)
                    self.bad(len(ahead), text + "\n  told 8\nentry")
                elif name != "order":
                    # It ends within an entry.
                    self.bad(len(text), text)
                    self.bad(len(text) + 1, text + "\n")

    def test_the_end(self):
        for many in range(1, len(TEXT.split("\n"))):
            rows = TEXT.split("\n")[:many]
            text = "\n".join(rows)
            self.bad(len(text) + 1, text + "\n")
            self.bad(len(text) + 1, text + "\n\n")
            if rows[-1].startswith("  "):
                # All rows are as told, but entries lack.
                self.assertRaises(BadEntry, read_code, text)
            else:
                self.bad(len(text), text)
        self.bad(0, "")
        self.bad(0, "\n")
        self.bad(0, "\n" + EIGHT)
        self.bad(len(EIGHT) + 1, EIGHT + "\n")

    def test_the_first_row_decides(self):
        self.bad(8, "entry 0\ntells x\nentry 5\n")
        self.bad(8, "entry 0\nslot a\n  told x")
        # Also ahead of an entry that is not right.
        text = "entry 0\ntells a\n  told 8\n"
        self.bad(len(text), text + "entry 2")
        self.bad(len(text) + 7, text + "entry 1")

    def wrong_entry(self, position, *entries):
        text = "\n".join(f"entry {place}\n{entry}" for place, entry in enumerate(entries))
        self.check_error(BadEntry, {"position": position}, read_code, text=text)

    def test_entries_that_are_not_right(self):
        start = "tells count\n  told 8"
        self.wrong_entry(0, "tells a\n  told 8")
        self.wrong_entry(0, "tells count\n  given")
        self.wrong_entry(0, "tells count\n  slot 0")
        self.wrong_entry(0, "tells count\n  next")
        self.wrong_entry(0, "tells count\n  told 1\n  told 2")
        self.wrong_entry(0, "tells a > a\n  make 0")
        self.wrong_entry(0, "tells a > a\n  make 1")
        self.wrong_entry(0, "tells a > a\n  make 2", GIVEN)
        self.wrong_entry(0, "tells a > a\n  make 1: given", GIVEN)
        self.wrong_entry(0, "tells a > a\n  make 1", "slot a\n" + GIVEN)
        self.wrong_entry(1, start, GIVEN + "\n  given")
        self.wrong_entry(1, start, GIVEN.replace("tells a", "tells b"))
        self.wrong_entry(1, start, GIVEN + "\n  slot 0\n  both\n  first")
        self.wrong_entry(2, start, GIVEN, "given a\ntells count\n  given", GIVEN)
        for place in range(1, 5):
            entries = [start] + [GIVEN] * 5
            entries[place] = "given a\ntells b\n  given"
            self.wrong_entry(place, *entries)
            entries[place + 1] = "given a\ntells b\n  given"
            self.wrong_entry(place, *entries)

    def test_numbers_beyond_all(self):
        for number in (1000001, 9999999, 10000000, 10 ** 30, 10 ** 300):
            self.wrong_entry(0, f"tells count\n  told {number}")
            self.wrong_entry(0, f"tells a > a\n  make {number}", GIVEN)
            self.wrong_entry(1, "tells count\n  told 8", f"slot a\ngiven a\ntells a\n  slot {number}")
            self.wrong_entry(1, "tells count\n  told 8", f"slot a\ngiven a\ntells a > a\n  make 2: slot {number}", GIVEN)
            # Behind it, and ahead of it, others.
            self.wrong_entry(1, "tells count\n  told 8", f"given a\ntells count\n  told {number}", "given a\ntells b\n  given")
            self.wrong_entry(1, "tells count\n  told 8", "given a\ntells b\n  given", f"given a\ntells count\n  told {number}")
        self.check([([], [], COUNT, [("told", 1000000)])], read_code, text=EIGHT.replace("8", "1000000"))

    def test_bounds(self):
        start = "tells count\n  told 8"
        for many in (60, 61):
            entries = [start, "slot a\n" * many + GIVEN, "given a\ntells b\n  given"]
            self.wrong_entry(1 if many == 61 else 2, *entries)
        orders = "\n  next" * 399
        self.check([([], [], COUNT, [("told", 8)] + [("next",)] * 399)], read_code, text=EIGHT + orders)
        self.wrong_entry(0, start + orders + "\n  next", "given a\ntells b\n  given")
        self.wrong_entry(1, start, "given count\ntells count\n  given" + orders + "\n  next", "given a\ntells b\n  given")
        # An entry beyond the bound of slots is made by an earlier one as it should be.
        sources = ", ".join(["given"] * 61)
        self.wrong_entry(2, start, f"given a\ntells a > a\n  make 2: {sources}", "slot a\n" * 61 + GIVEN)

    def test_how_many_entries(self):
        start = "tells count\n  told 8"
        text = "\n".join(f"entry {place}\n{GIVEN if place else start}" for place in range(300))
        self.assertEqual(len(read_code(text)), 300)
        self.wrong_entry(300, start, *[GIVEN] * 300)
        self.wrong_entry(300, start, *[GIVEN] * 305)
        self.wrong_entry(299, start, *[GIVEN] * 298, "given a\ntells b\n  given", GIVEN)

    def test_changed_texts(self):
        # With one sign left out, put in or changed, a text is the text of another code, or of none.
        rng = random.Random(77)
        read, refused = 0, 0
        for program in random_programs(rng, 25, 2, 25):
            text = code_text(compiled(program))
            for _ in range(60):
                place = rng.randrange(len(text) + 1)
                sign = rng.choice(["", rng.choice(" \n:,[]()>*+0123456789abcdefglost"), text[place:place + 1] + rng.choice(" \n0a")])
                changed = text[:place] + sign + text[place + 1:]
                try:
                    code = read_code(changed)
                except (BadText, BadEntry) as error:
                    refused += 1
                    if isinstance(error, BadText):
                        self.assertTrue(error.spot in (0, len(changed)) or changed[error.spot - 1] == "\n")
                        # What is ahead of the row is right, and all up to it decides.
                        end = (changed + "\n").index("\n", error.spot) if error.spot < len(changed) else len(changed)
                        with self.assertRaises(BadText) as caught:
                            read_code(changed[:end])
                        self.assertEqual(caught.exception.spot, error.spot)
                    continue
                read += 1
                self.assertTrue(is_code(code))
                self.assertEqual(code_text(code), changed)
        self.assertGreater(refused, 300)
        self.assertGreater(read, 5)


if __name__ == "__main__":
    unittest.main()
