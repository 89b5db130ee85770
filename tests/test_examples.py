"""The examples of the document, as they stand there; names go on from one to the next."""

import doctest
import unittest

from selfprint.parting import is_test
from selfprint.printing import printed
from selfprint.reader import read_program
from selfprint.ways import first_parting, parting_depth

EXAMPLES = r'''
>>> from selfprint.kinds import is_data, is_kind, is_met, is_shown, kind_size, letters, put_kind
>>> a, b, step = ("letter", 0), ("letter", 1), ("fun", ("letter", 0), ("letter", 0))
>>> [is_kind(step), is_kind(("fun", a)), is_kind(("letter", True)), is_shown(("fun", step, a)), is_shown(("fun", ("count",), a)), is_met(("sum", a, a)), is_data(("pair", ("count",), ("count",)))]
[True, False, False, True, False, False, True]

>>> [kind_size(("fun", step, ("pair", b, a))), letters(("fun", step, b)), put_kind(step, 0, ("count",)) == ("fun", ("count",), ("count",)), put_kind(step, 1, b) == step]
[7, [0, 1], True, True]

>>> from selfprint.terms import children, is_term, letters_put, lifted, open_names, part, put_in, size_of
>>> twice = [("fun", step), ("fun", a), ("call",), ("name", 1), ("call",), ("name", 1), ("name", 0)]
>>> [is_term(twice), is_term([("call",), ("name", 0)]), children(twice, 2), part(twice, 4), size_of(twice), open_names(twice), open_names(part(twice, 4)), lifted([("name", 0)], 2)]
[True, False, [3, 4], [('call',), ('name', 1), ('name', 0)], 7, 0, 2, [('name', 2)]]

>>> [put_in(part(twice, 4), [("told", 3)]), put_in([("fun", a), ("name", 1)], [("name", 0)]), letters_put([("fun", a), ("name", 0)], 0, ("count",))]
[[('call',), ('name', 0), ('told', 3)], [('fun', ('letter', 0)), ('name', 1)], [('fun', ('count',)), ('name', 0)]]

>>> from selfprint.checked import fits, is_program, kind_of, kinds_at, program_kind
>>> [kind_of([], twice) == ("fun", step, step), kind_of([a, step], part(twice, 4)) == a, fits([], [("next",), ("left", a), ("told", 1)]), kinds_at([], [("next",), ("told", 1)]), is_program(part(twice, 4)), program_kind(twice) == ("fun", step, step)]
[True, True, False, [('count',), ('count',)], False, True]

>>> from selfprint.signs import pieces
>>> pieces("fun f:a>a. # one\n f 12x")
[(0, 'fun'), (4, 'f'), (5, ':'), (6, 'a'), (7, '>'), (8, 'a'), (9, '.'), (18, 'f'), (20, '12'), (22, 'x')]

>>> from selfprint.reader import read_kind, read_program, read_term
>>> a, to_a = ("letter", 0), ("fun", ("letter", 0), ("letter", 0))
>>> [read_kind("a > a") == to_a, read_kind("a*b + count") == ("sum", ("pair", a, ("letter", 1)), ("count",))]
[True, True]
>>> [read_term("f (next n)", ["n", "f"]), read_program("fun f : a > a. f") == [("fun", to_a), ("name", 0)]]
[[('call',), ('name', 1), ('next',), ('name', 0)], True]

>>> from selfprint.printer import write_kind, write_term, written
>>> [write_kind(("pair", to_a, ("pair", a, a))), write_term([("call",), ("name", 1), ("next",), ("name", 0)], ["n", "f"])]
['(a > a) * (a * a)', 'f (next n)']
>>> written(read_program("fun f : a > a. fun x : a. let g = (f, fun y : a. y) in first g ((second g) x)"))
'fun x0 : a > a. fun x1 : a. let x2 = (x0, fun x2 : a. x2) in first x2 (second x2 x1)'

>>> from selfprint.steps import first_steps, is_plain, stepped
>>> a, aa = ("letter", 0), ("fun", ("letter", 0), ("letter", 0))
>>> same, twice = [("fun", aa), ("call",), ("fun", aa), ("name", 0), ("name", 0)], [("fun", a), ("turns", a), ("told", 2), ("name", 0), ("name", 0)]
>>> [first_steps(same), stepped(same, 1, "call"), stepped(twice, 1, "turns"), stepped([("next",), ("told", 4)], 0, "next"), is_plain([("told", 5)])]
[[(1, 'call'), (1, 'long'), (3, 'long'), (4, 'long')], [('fun', ('fun', ('letter', 0), ('letter', 0))), ('name', 0)], [('fun', ('letter', 0)), ('turns', ('letter', 0)), ('told', 1), ('name', 0), ('name', 0)], [('told', 5)], True]

>>> from selfprint.forms import are_alike, form, is_steps, steps_of
>>> [form(same) == [("fun", aa), ("fun", a), ("call",), ("name", 1), ("name", 0)], form(twice), is_steps(twice, form(twice), [(1, "turns"), (1, "turns"), (1, "turns")])]
[True, [('fun', ('letter', 0)), ('name', 0)], True]
>>> [is_steps(same, form(same), steps_of(same)), is_steps(same, same, []), is_steps(same, form(same), [(1, "long")]), are_alike(same, form(same)), are_alike(same, twice)]
[True, True, False, True, False]

>>> from selfprint.worths import data_term
>>> number = ("count",)
>>> data_term(("pair", number, ("sum", number, number)), ("both", 4, ("right", 0)))
[('both',), ('told', 4), ('right', ('count',)), ('told', 0)]

>>> from selfprint.running import call_count, call_row, value_of
>>> twice = [("call",), ("fun", number), ("both",), ("name", 0), ("next",), ("name", 0), ("told", 4)]
>>> round_trip = [("turns", number), ("told", 3), ("let",), ("next",), ("name", 0), ("next",), ("name", 0), ("told", 1)]
>>> [value_of(twice), call_row(twice), value_of(round_trip), call_row(round_trip), call_count([("fun", number), ("name", 0)])]
[('both', 4, 5), [1], 7, [0, 2, 0, 2, 0, 2], 0]

>>> from selfprint.machine import Run
>>> run = Run(round_trip)
>>> [run.calls, run.go(0), run.go(4), run.calls, run.is_done, run.go(2), run.calls, run.value()]
[0, False, False, 4, False, True, 6, 7]

>>> from selfprint.printing import is_long, is_printed, long_count, long_programs, print_calls, printed
>>> a = ("letter", 0)
>>> aa, pair = ("fun", a, a), ("pair", a, a)
>>> [printed([("fun", aa), ("fun", a), ("let",), ("both",), ("name", 1), ("fun", a), ("name", 0), ("call",), ("first",), ("name", 0), ("call",), ("second",), ("name", 0), ("name", 1)]), printed([("fun", pair), ("name", 0)])]
[[('fun', ('fun', ('letter', 0), ('letter', 0))), ('fun', ('letter', 0)), ('call',), ('name', 1), ('name', 0)], [('fun', ('pair', ('letter', 0), ('letter', 0))), ('both',), ('first',), ('name', 0), ('second',), ('name', 0)]]
>>> [print_calls([("fun", aa), ("name", 0)]), is_printed([("fun", aa), ("name", 0)], [("fun", aa), ("fun", a), ("call",), ("name", 1), ("name", 0)]), is_long(aa, [("fun", a), ("name", 0)]), [long_count(("fun", aa, aa), many) for many in range(1, 8)], long_programs(("fun", pair, a), 4)]
[1, True, True, [0, 0, 1, 0, 1, 0, 1], [[('fun', ('pair', ('letter', 0), ('letter', 0))), ('first',), ('name', 0)], [('fun', ('pair', ('letter', 0), ('letter', 0))), ('second',), ('name', 0)]]]

>>> from selfprint.codes import code_kind, is_code
>>> from selfprint.compiler import compiled
>>> a, to_a = ("letter", 0), ("fun", ("letter", 0), ("letter", 0))
>>> twice = compiled([("fun", to_a), ("fun", a), ("call",), ("name", 1), ("call",), ("name", 1), ("name", 0)])
>>> [twice[1], twice[2][3], code_kind(twice) == ("fun", to_a, to_a), is_code(twice[1:])]
[([], [('fun', ('letter', 0), ('letter', 0))], ('fun', ('letter', 0), ('letter', 0)), [('make', 2, [('given',)])]), [('slot', 0), ('slot', 0), ('given',), ('call',), ('call',)], True, False]

>>> from selfprint.orders import code_calls, run_code
>>> three = compiled([("turns", ("count",)), ("told", 3), ("let",), ("next",), ("name", 0), ("next",), ("name", 0), ("told", 1)])
>>> [run_code(three), code_calls(three), code_calls(twice), run_code([([], [], ("count",), [("told", 8), ("next",)])])]
[7, 6, 0, 9]

>>> from selfprint.codes import shaken
>>> from selfprint.decompiler import decompiled
>>> given = ([], [a], a, [("given",)])
>>> odd = [([], [], to_a, [("make", 2, [])]), given, ([], [a], a, [("make", 3, []), ("given",), ("call",)]), given]
>>> [decompiled(odd), len(shaken(odd)), code_calls(odd), decompiled(twice)[4:]]
[[('fun', ('letter', 0)), ('name', 0)], 3, 0, [('call',), ('name', 1), ('name', 0)]]

>>> from selfprint.codetext import code_text, read_code
>>> code_text(shaken(odd))[:39]
'entry 0\ntells a > a\n  make 1\nentry 1\ngi'
>>> [read_code(code_text(twice)) == twice, code_text([([], [], ("count",), [("told", 8)])])]
[True, 'entry 0\ntells count\n  told 8']

>>> from selfprint.left import arrows, behind, called, is_left, left_at, left_of
>>> a, go = ("letter", 0), ("fun", ("letter", 0), ("letter", 0))
>>> power = [("fun", ("count",)), ("fun", go), ("fun", a), ("turns", a), ("name", 2), ("call",), ("name", 2), ("name", 0), ("name", 0)]
>>> [left_of(power, [[("told", 2)]]), called(power, [[("told", 2)]])[:2], is_left(power, [[("told", 0)]], [("fun", go), ("fun", a), ("name", 0)]), len(arrows(("fun", ("count",), ("fun", go, go))))]
[[('fun', ('fun', ('letter', 0), ('letter', 0))), ('fun', ('letter', 0)), ('call',), ('name', 1), ('call',), ('name', 1), ('name', 0)], [('call',), ('fun', ('count',))], True, 3]
>>> twice, later = left_of(power, [[("told", 2)]]), [("fun", go), ("fun", ("count",)), ("fun", a), ("turns", a), ("name", 1), ("call",), ("name", 3), ("name", 0), ("name", 0)]
>>> [left_of(behind(twice, twice), []) == left_of(power, [[("told", 4)]]), left_at(later, [1], [[("told", 2)]]) == twice, behind(twice, twice)[:2]]
[True, True, [('fun', ('fun', ('letter', 0), ('letter', 0))), ('call',)]]

>>> from selfprint.tiny import interpreter, is_tiny, tiny_left, tiny_term
>>> [is_tiny([("f", 2), ("keep", 1), ("g", 1)]), is_tiny([("f", 10)]), is_tiny([["f", 1]]), tiny_term([("g", 3)])[:4]]
[True, False, False, [('both',), ('left', ('sum', ('count',), ('count',))), ('right', ('count',)), ('told', 3)]]
>>> [tiny_left([("f", 1), ("keep", 1), ("g", 1)])[3:], tiny_left([])[3:], left_of(interpreter(), [tiny_term([("f", 1)])]) == tiny_left([("f", 1)])]
[[('call',), ('name', 1), ('both',), ('call',), ('name', 2), ('name', 0), ('call',), ('name', 2), ('name', 0)], [('name', 0)], True]

>>> from selfprint.reader import read_program
>>> from selfprint.ways import first_parting, parted, parting_depth
>>> near, far = read_program("fun x : a. fun y : a. x"), read_program("fun x : a. fun y : a. y")
>>> [first_parting(near, far), parting_depth(near, far), parted(near, near), first_parting(near, near), first_parting([("both",), ("told", 1), ("told", 2)], [("both",), ("told", 1), ("told", 3)]), first_parting(read_program("fun f : a > a. fun x : a. f (f x)"), read_program("fun f : a > a. fun x : a. f x"))]
[[('fun',), ('fun',)], 0, False, None, [('second',)], [('fun',), ('fun',), ('argument', 0)]]

>>> from selfprint.callers import row_kind, row_part, rows_put, test_of
>>> [row_kind(3), row_part(3, 1)[1:], rows_put(1, near)[0], test_of(near, near), test_of(near, far)[0]]
[('pair', ('count',), ('pair', ('count',), ('count',))), [('first',), ('second',), ('name', 0)], ('fun', ('count',)), None, 1]

>>> from selfprint.parting import asked, is_test
>>> caller = read_program("fun p : count > count > count. p 0 1")
>>> [is_test(near, far, (1, caller)), is_test(far, near, (1, caller)), is_test(near, far, test_of(near, far)), asked(far, 1, caller), is_test(near, far, [1, caller])]
[True, False, True, 1, False]

>>> from selfprint.texts import filed, is_of_sort
>>> a = ("letter", 0)
>>> [filed("kind", ("fun", a, a)), filed("program", [("fun", a), ("name", 0)]), filed("steps", [(0, "next")]), filed("test", (1, [("told", 3)])), is_of_sort("steps", [(0, "jump")])]
['kind a > a\n', 'program fun x0 : a. x0\n', 'steps\nstep 0 next\n', 'test 1 3\n', False]

>>> from selfprint.files import read
>>> [read("steps\nstep 0 next\n"), read("code\nentry 0\ntells count\n  told 8\n") == ("code", [([], [], ("count",), [("told", 8)])])]
[('steps', [(0, 'next')]), True]

>>> from selfprint.claims import contrary, is_paper_of, is_true
>>> more, eight = [("fun", ("count",)), ("next",), ("name", 0)], [([], [], ("count",), [("told", 8)])]
>>> [is_paper_of(("alike", [("next",), ("told", 1)], [("told", 2)]), ([("told", 2)], [(0, "next")], [])), is_paper_of(("prints", eight, [("told", 8)]), []), is_true(("leaves", more, [[("told", 2)]], [("told", 3)]))]
[True, True, True]
>>> [is_paper_of(("steps", [("next",), ("told", 1)]), (0, "next")), is_true(("unlike", [("told", 1)], [("told", 2)])), contrary(("plain", more)) == ("steps", more)]
[True, True, True]

>>> from selfprint.commands import is_command, is_deed
>>> [is_command("program f fun x : a. x"), is_command("program f "), is_deed("claim k alike f g"), is_command("step f 0 call"), is_deed("worth f"), is_command("step f 0 jump")]
[True, False, True, True, False, False]

>>> from selfprint.desk import Desk
>>> desk = Desk()
>>> desk.do_all("program f fun g : a > a. fun x : a. let h = (g, fun y : a. y) in first h ((second h) x)", "print p f", "show p", "claim k alike f p", "claim s plain f", "firsts p", "program t 2", "worth t", "size p", "ready p")
['-', '-', 'fun x0 : a > a. fun x1 : a. x0 x1', 'k true', 's false', '-', '-', '2', '5', 'yes']
>>> desk.do_all("program q fun n : count. fun g : a > a. fun x : a. turns n (y : a. g y) x", "left r q t", "show r", "code c r", "back d c", "same r d", "calls t", "kindof z q", "show z", "step f 2 let", "states", "undo")
['-', '-', 'fun x0 : a > a. fun x1 : a. x0 (x0 x1)', '-', '-', 'yes', '0', '-', 'count > (a > a) > a > a', '-', 'k true, s false', 'step f 2 let']
'''


class Examples(unittest.TestCase):
    def test_examples(self):
        told = doctest.DocTestParser().get_doctest(EXAMPLES, {}, "examples", None, 0)
        self.assertEqual(len(told.examples), EXAMPLES.count(">>>"))
        faults = []
        doctest.DocTestRunner(verbose=False).run(told, out=faults.append)
        self.assertEqual("".join(faults), "")

    def test_the_first_one(self):
        # Ahead of all stages, in [1].
        text = "fun f : a > a. fun x : a. let g = (f, fun y : a. y) in first g ((second g) x)"
        self.assertEqual(printed(read_program(text)), read_program("fun f : a > a. fun x : a. f x"))

    def test_the_one_of_87(self):
        one, other = read_program("fun x : a. fun y : a. x"), read_program("fun x : a. fun y : a. y")
        self.assertEqual(first_parting(one, other), [("fun",), ("fun",)])
        self.assertEqual(parting_depth(one, other), 0)
        self.assertTrue(is_test(one, other, (1, read_program("fun p : count > count > count. p 0 1"))))


if __name__ == "__main__":
    unittest.main()
