"""selfprint.files: [92]."""

import random
import unittest

from helper import A, COUNT, ODD, Checks, fun, random_programs
from selfprint.codetext import read_code
from selfprint.compiler import compiled
from selfprint.errors import BadEntry, BadLine, BadText, TermError, TooMany
from selfprint.files import read
from selfprint.kinds import is_kind
from selfprint.printer import write_kind, written
from selfprint.reader import read_kind, read_program
from selfprint.texts import filed

CODE = "code\nentry 0\ntells count\n  told 8\n"
TWO = "code\nentry 0\ntells a > a\n  make 1\nentry 1\ngiven a\ntells a\n  given\n"

# Texts and their wrong lines.
WRONG = [
    ("", 1), ("\n", 1), ("\n\n", 1), (" ", 1), ("\nkind a\n", 1),
    # The first line begins no form.
    ("kinds a\n", 1), ("Kind a\n", 1), (" kind a\n", 1), ("kind\n", 1), ("kind \n", 1), ("program\n", 1), ("test\n", 1), ("step 0 next\n", 1), ("a\n", 1),
    ("codes\n", 1), ("code \n", 1), (" code\n", 1), ("code 1\n", 1), ("steps \n", 1), ("steps 0\n", 1), ("entry 0\n", 1), ("worth 5\n", 1), ("kind\ta\n", 1),
    # The whole line is not as told.
    ("kind g\n", 1), ("kind a > \n", 1), ("kind  a\n", 1), ("kind a \n", 1), ("kind (a)\n", 1), ("kind a>a\n", 1), ("kind a > (a > a)\n", 1), ("kind a # so\n", 1),
    ("kind a b\n", 1), ("kind count count\n", 1), ("program x\n", 1), ("program 01\n", 1), ("program fun x : a. x\n", 1), ("program (fun x0 : a. x0)\n", 1),
    ("program fun x0 : a. (x0)\n", 1), ("program fun x0 :a. x0\n", 1), ("program fun x0 : a.  x0\n", 1), ("program fun x1 : a. x1\n", 1), ("program next 1 \n", 1),
    ("program next\n", 1), ("program 1 2\n", 1), ("program first 1\n", 1), ("program 1000001\n", 1), ("program fun x0 : a. y\n", 1),
    ("program 5 # five\n", 1), ("test 1\n", 1), ("test 1 \n", 1), ("test 0 3\n", 1), ("test 12 3\n", 1), ("test 01 3\n", 1), ("test 1  3\n", 1), ("test x 3\n", 1),
    ("test -1 3\n", 1), ("test 3\n", 1), ("test 1 03\n", 1), ("test 1 first 1\n", 1), ("test 1000000000000 3\n", 1), ("test 1 (3)\n", 1), ("test +1 3\n", 1),
    # What stands behind a form that is done.
    ("kind a\n\n", 2), ("kind a\nkind a\n", 2), ("program 5\n5\n", 2), ("test 1 3\n \n", 2), ("kind a\n\n\n", 2), ("kind b\ncode\n", 2), ("kind b\ncode", 2),
    ("steps\nkind a\n", 2), ("steps\nstep 0 next\nsteps\n", 3), ("steps\nstep 0 next\n\n", 3), (CODE + "code\n", 5), (CODE + "\n", 5), (CODE + "kind a\n", 5),
    # A last line without a line feed.
    ("kind a", 1), ("kind", 1), ("code", 1), ("steps", 1), ("steps\nstep 0 next", 2), ("steps\nstep", 2), (CODE[:-1], 4), ("code\nentry 0", 2), ("kind a\nx", 2),
    (CODE + "entry 1", 5), (CODE + "x", 5), ("code\nentry 0\ntells count\n  told 1000001", 4), ("code\nentry 0\ntells count\n  told 1000001\n  next", 5),
    # One with a fault ahead of it.
    ("kind g\nkind a", 1), ("steps\nstep 0\nstep 0 next", 2), ("code\nentry 1\ntells count\n  told 8", 2), ("code\nentry 0\ntell count\n  told 8", 3), ("kind a\n\nx", 2),
    # Steps.
    ("steps\nstep 0 jump\n", 2), ("steps\nstep 0\n", 2), ("steps\nstep next\n", 2), ("steps\nstep 0 next \n", 2), ("steps\nstep  0 next\n", 2), ("steps\nstep 00 next\n", 2),
    ("steps\nstep 01 next\n", 2), ("steps\nstep 300 next\n", 2), ("steps\nstep -1 next\n", 2), ("steps\nstep 0 Next\n", 2), ("steps\nstep 0 next next\n", 2), ("steps\n 0 next\n", 2),
    ("steps\nstep 0 next\nstep 1 call\nstep 2\nstep\n", 4), ("steps\nStep 0 next\n", 2), ("steps\nstep 10000000000 next\n", 2), ("steps\nstep x next\n", 2), ("steps\n\n", 2),
    # Rows of a code.
    ("code\n\n", 2), ("code\nentry 1\n", 2), ("code\nentry 00\n", 2), ("code\nentry 0 \n", 2), ("code\n entry 0\n", 2), ("code\nentry\n", 2), ("code\ntells count\n", 2),
    ("code\nentry 0\ngiven a\n", 3), ("code\nentry 0\nslot a\n", 3), ("code\nentry 0\n  told 8\n", 3), ("code\nentry 0\ntells g\n", 3), ("code\nentry 0\ntells (a)\n", 3),
    ("code\nentry 0\ntells count\ntells count\n", 4), ("code\nentry 0\ntells count\nentry 1\n", 4), ("code\nentry 0\ntells count\n told 8\n", 4),
    ("code\nentry 0\ntells count\n   told 8\n", 4), ("code\nentry 0\ntells count\n  told 08\n", 4), ("code\nentry 0\ntells count\n  told\n", 4),
    ("code\nentry 0\ntells count\n  told 8 \n", 4), ("code\nentry 0\ntells count\n  jump\n", 4), ("code\nentry 0\ntells count\n  told 8\n\n  next\n", 5),
    ("code\nentry 0\ntells count\n  told 8\nentry 2\n", 5), ("code\nentry 0\n\ntells count\n", 3), ("code\nentry 0\ntells count\n\n", 4),
    # Rows that lack.
    ("code\n", 2), ("code\nentry 0\n", 3), ("code\nentry 0\ntells count\n", 4), (CODE + "entry 1\n", 6), (CODE + "entry 1\ngiven a\n", 7),
    (CODE + "entry 1\ngiven a\ntells a\n", 8),
    # An entry at fault.
    ("code\nentry 0\ntells a\n  told 8\n", 5), ("code\nentry 0\ntells count\n  told 1000001\n", 5), ("code\nentry 0\ntells count\n  next\n", 5),
    ("code\nentry 0\ntells count\n  told 8\n  told 8\n", 6), ("code\nentry 0\ntells a > a\n  make 1\n", 5), (TWO.replace("make 1", "make 0"), 9),
    (TWO + "entry 2\ngiven a\ntells a\n  slot 0\n", 13), ("code\nentry 0\ntells count\n  given\n", 5),
    ("code\nentry 0\ntells count\n" + "  told 8\n" + "  next\n" * 400, 405),
]


class Wrong(Checks):
    def test_each_sort_of_fault(self):
        for text, line in WRONG:
            self.check_error(BadLine, {"line": line}, read, text=text)

    def test_no_strings(self):
        for value in ODD:
            line = 1 if isinstance(value, str) else 0
            self.check_error(BadLine, {"line": line}, read, text=value)
        self.check_error(BadLine, {"line": 0}, read, text=b"kind a\n")
        self.check_error(BadLine, {"line": 0}, read, text=["kind a\n"])

    def test_the_two_hundred_and_first_step(self):
        steps = "steps\n" + "step 7 call\n" * 200
        self.check(("steps", [(7, "call")] * 200), read, text=steps)
        for behind in ("step 7 call\n", "step 7 call\nstep 7 call\n", "x\n", "\n", "step 7 call", "x"):
            self.check_error(BadLine, {"line": 202}, read, text=steps + behind)
        self.check_error(BadLine, {"line": 101}, read, text=steps.replace("step 7 call\n" * 101, "step 7 call\n" * 99 + "x\n" + "step 7 call\n") + "step 7 call\n" * 3)
        self.check_error(BadLine, {"line": 201}, read, text=steps[:-1])

    def test_too_many_entries(self):
        text = CODE + "".join(f"entry {place}\ngiven a\ntells a\n  given\n" for place in range(1, 300))
        sort, value = read(text)
        self.assertEqual((sort, len(value)), ("code", 300))
        more = text + "entry 300\ngiven a\ntells a\n  given\n"
        self.check_error(BadLine, {"line": 1 + 3 + 300 * 4 + 1}, read, text=more)
        self.check_error(BadLine, {"line": 1 + 3 + 300 * 4}, read, text=more[:-1])

    def test_too_much_to_be_read(self):
        # filed tells such texts, but they are too much for [25].
        deep_one = [("call",), ("fun", COUNT), ("name", 0)] * 41 + [("told", 0)]
        text = filed("program", deep_one)
        self.assertTrue(text.startswith("program (fun x0 : count. x0) ((fun x0"))
        with self.assertRaises(TooMany) as caught:
            read_program(text[len("program "):-1])
        self.assertEqual(caught.exception.what, "brackets")
        self.check_error(BadLine, {"line": 1}, read, text=text)
        self.check_error(BadLine, {"line": 1}, read, text=text[:-1])
        self.check_error(BadLine, {"line": 1}, read, text=filed("test", (3, deep_one)))
        most = deep_one[3:]
        self.check(("program", most), read, text=filed("program", most))
        self.check_error(BadLine, {"line": 1}, read, text="kind " + " * ".join(["a"] * 31) + "\n")
        self.check_error(BadLine, {"line": 1}, read, text="kind " + " > ".join(["a"] * 13) + "\n")
        self.check_error(BadLine, {"line": 3}, read, text="code\nentry 0\ntells " + " > ".join(["a"] * 13) + "\n  told 8\n")


class Read(Checks):
    def test_forms(self):
        for text, wanted in (
                ("kind a\n", ("kind", A)), ("kind (a > a) > count\n", ("kind", fun(fun(A, A), COUNT))), ("program 0\n", ("program", [("told", 0)])),
                ("program fun x0 : a. x0\n", ("program", [("fun", A), ("name", 0)])), ("steps\n", ("steps", [])),
                ("steps\nstep 0 next\nstep 299 long\n", ("steps", [(0, "next"), (299, "long")])), ("test 11 3\n", ("test", (11, [("told", 3)]))),
                ("test 1 fun x0 : count. x0\n", ("test", (1, [("fun", COUNT), ("name", 0)]))), (CODE, ("code", [([], [], COUNT, [("told", 8)])])),
                (TWO, ("code", [([], [], fun(A, A), [("make", 1, [])]), ([], [A], A, [("given",)])]))):
            self.check(wanted, read, text=text)
            self.assertEqual(filed(*wanted), text)

    def test_a_line_left_out_changed_or_put_in(self):
        rng = random.Random(102)
        faults = 0
        for program in random_programs(rng, 25, 3, 60):
            for text in (filed("code", compiled(program)), filed("program", program), filed("test", (4, program)), filed("steps", [(3, "call"), (4, "let")])):
                lines = text.split("\n")[:-1]
                for _ in range(8):
                    place = rng.randrange(len(lines) + 1)
                    line = rng.choice(["", "x", "kind a", "entry 1", "step 1 let", "tells a", "given a", "slot b", "  given", "  told 3", "  call"])
                    changed = rng.choice([lines[:place] + [line] + lines[place:], lines[:place] + lines[place + 1:], lines[:place] + [line] + lines[place + 1:]])
                    made = "".join(one + "\n" for one in changed)
                    made = made if rng.randrange(3) else made[:-1]
                    wanted = plain_wrong_line(made)
                    if wanted is None:
                        sort, value = read(made)
                        self.assertEqual(filed(sort, value), made)
                    else:
                        faults += 1
                        self.check_error(BadLine, {"line": wanted}, read, text=made)
        self.assertGreater(faults, 500)

    def test_a_sign_left_out_changed_or_put_in(self):
        rng = random.Random(103)
        for text in ("kind (a > a) > count\n", "program fun x0 : a > a. fun x1 : a. x0 (x0 x1)\n", "test 11 fun x0 : count. next x0\n",
                     "steps\nstep 0 next\nstep 12 call\n", TWO):
            for place in range(len(text) + 1):
                for sign in ("", rng.choice("abx0 1(\n.>")):
                    for made in (text[:place] + sign + text[place:], text[:place] + sign + text[place + 1:]):
                        wanted = plain_wrong_line(made)
                        if wanted is None:
                            self.assertEqual(filed(*read(made)), made)
                        else:
                            self.check_error(BadLine, {"line": wanted}, read, text=made)


# [92] told once more: of each part of the text that ends with a line feed, whether it can go on to a form.


def plain_wrong_line(text):
    """The wrong line of a string; None if it is a form."""
    lines = text.split("\n")
    whole, last = lines[:-1], lines[-1]
    for number in range(1, len(whole) + 1):
        if not can_go_on(whole[:number]):
            return number
    if last or not whole or not is_done(whole):
        return len(whole) + 1
    return None


def can_go_on(lines):
    """Whether these lines are no fault, whatever comes behind them."""
    word, _, rest = lines[0].partition(" ")
    if lines[0] == "steps":
        return len(lines) <= 201 and all(is_plain_step(line) for line in lines[1:])
    if lines[0] == "code":
        try:
            read_code("\n".join(lines[1:]))
        except BadText as why:
            # Rows that lack are no fault of a line that is there.
            before = "\n".join(lines[1:-1])
            return why.spot > len(before) + (len(lines) > 2) or len(lines) == 1
        except BadEntry:
            return True
        return True
    if len(lines) > 1:
        return False
    return is_whole_line(word, rest)


def is_plain_step(line):
    parts = line.split(" ")
    return (len(parts) == 3 and parts[0] == "step" and parts[1] in [str(number) for number in range(300)]
            and parts[2] in "call first second which turns next let long".split())


def is_whole_line(word, rest):
    try:
        if word == "kind":
            return is_kind(read_kind(rest)) and write_kind(read_kind(rest)) == rest
        if word == "test":
            number, _, rest = rest.partition(" ")
            return number in [str(many) for many in range(1, 12)] and written(read_program(rest)) == rest
        return word == "program" and written(read_program(rest)) == rest
    except (TermError, TooMany, LookupError):
        return False


def is_done(lines):
    if lines[0] != "code":
        return True
    try:
        read_code("\n".join(lines[1:]))
    except (BadText, BadEntry):
        return False
    return True


if __name__ == "__main__":
    unittest.main()
