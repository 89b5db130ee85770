"""The examples of the document, as they stand there; names go on from one to the next."""

import doctest
import unittest

EXAMPLES = r'''
>>> from selfprint.kinds import is_data, is_kind, is_met, is_shown, kind_size, letters, put_kind
>>> a, b, step = ("letter", 0), ("letter", 1), ("fun", ("letter", 0), ("letter", 0))
>>> [is_kind(step), is_kind(("fun", a)), is_kind(("letter", True)), is_shown(("fun", step, a)), is_shown(("fun", ("count",), a)), is_met(("sum", a, a)), is_data(("pair", ("count",), ("count",)))]
[True, False, False, True, False, False, True]

>>> [kind_size(("fun", step, ("pair", b, a))), letters(("fun", step, b)), put_kind(step, 0, ("count",)) == ("fun", ("count",), ("count",)), put_kind(step, 1, b) == step]
[7, [0, 1], True, True]

>>> from selfprint.terms import children, is_term, letters_put, lifted, open_names, part, put_in, size_of
>>> twice = [("fun", step), ("fun", a), ("call",), ("name", 1), ("call",), ("name", 1), ("name", 0)]
>>> [is_term(twice), is_term([("call",), ("name", 0)]), children(twice, 2), part(twice, 4), size_of(twice), open_names(twice), open_names(part(twice, 4)), lifted([("name", 0)], 2)]
[True, False, [3, 4], [('call',), ('name', 1), ('name', 0)], 7, 0, 2, [('name', 2)]]

>>> [put_in(part(twice, 4), [("told", 3)]), put_in([("fun", a), ("name", 1)], [("name", 0)]), letters_put([("fun", a), ("name", 0)], 0, ("count",))]
[[('call',), ('name', 0), ('told', 3)], [('fun', ('letter', 0)), ('name', 1)], [('fun', ('count',)), ('name', 0)]]

>>> from selfprint.checked import fits, is_program, kind_of, kinds_at, program_kind
>>> [kind_of([], twice) == ("fun", step, step), kind_of([a, step], part(twice, 4)) == a, fits([], [("next",), ("left", a), ("told", 1)]), kinds_at([], [("next",), ("told", 1)]), is_program(part(twice, 4)), program_kind(twice) == ("fun", step, step)]
[True, True, False, [('count',), ('count',)], False, True]

>>> from selfprint.signs import pieces
>>> pieces("fun f:a>a. # one\n f 12x")
[(0, 'fun'), (4, 'f'), (5, ':'), (6, 'a'), (7, '>'), (8, 'a'), (9, '.'), (18, 'f'), (20, '12'), (22, 'x')]

>>> from selfprint.reader import read_kind, read_program, read_term
>>> a, to_a = ("letter", 0), ("fun", ("letter", 0), ("letter", 0))
>>> [read_kind("a > a") == to_a, read_kind("a*b + count") == ("sum", ("pair", a, ("letter", 1)), ("count",))]
[True, True]
>>> [read_term("f (next n)", ["n", "f"]), read_program("fun f : a > a. f") == [("fun", to_a), ("name", 0)]]
[[('call',), ('name', 1), ('next',), ('name', 0)], True]

>>> from selfprint.printer import write_kind, write_term, written
>>> [write_kind(("pair", to_a, ("pair", a, a))), write_term([("call",), ("name", 1), ("next",), ("name", 0)], ["n", "f"])]
['(a > a) * (a * a)', 'f (next n)']
>>> written(read_program("fun f : a > a. fun x : a. let g = (f, fun y : a. y) in first g ((second g) x)"))
'fun x0 : a > a. fun x1 : a. let x2 = (x0, fun x2 : a. x2) in first x2 (second x2 x1)'

>>> from selfprint.steps import first_steps, is_plain, stepped
>>> a, aa = ("letter", 0), ("fun", ("letter", 0), ("letter", 0))
>>> same, twice = [("fun", aa), ("call",), ("fun", aa), ("name", 0), ("name", 0)], [("fun", a), ("turns", a), ("told", 2), ("name", 0), ("name", 0)]
>>> [first_steps(same), stepped(same, 1, "call"), stepped(twice, 1, "turns"), stepped([("next",), ("told", 4)], 0, "next"), is_plain([("told", 5)])]
[[(1, 'call'), (1, 'long'), (3, 'long'), (4, 'long')], [('fun', ('fun', ('letter', 0), ('letter', 0))), ('name', 0)], [('fun', ('letter', 0)), ('turns', ('letter', 0)), ('told', 1), ('name', 0), ('name', 0)], [('told', 5)], True]
'''


class Examples(unittest.TestCase):
    def test_examples(self):
        told = doctest.DocTestParser().get_doctest(EXAMPLES, {}, "examples", None, 0)
        self.assertEqual(len(told.examples), EXAMPLES.count(">>>"))
        faults = []
        doctest.DocTestRunner(verbose=False).run(told, out=faults.append)
        self.assertEqual("".join(faults), "")


if __name__ == "__main__":
    unittest.main()
