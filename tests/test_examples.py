"""The examples of the document, as they stand there; names go on from one to the next."""

import doctest
import unittest

EXAMPLES = r'''
>>> from selfprint.kinds import is_data, is_kind, is_met, is_shown, kind_size, letters, put_kind
>>> a, b, step = ("letter", 0), ("letter", 1), ("fun", ("letter", 0), ("letter", 0))
>>> [is_kind(step), is_kind(("fun", a)), is_kind(("letter", True)), is_shown(("fun", step, a)), is_shown(("fun", ("count",), a)), is_met(("sum", a, a)), is_data(("pair", ("count",), ("count",)))]
[True, False, False, True, False, False, True]

>>> [kind_size(("fun", step, ("pair", b, a))), letters(("fun", step, b)), put_kind(step, 0, ("count",)) == ("fun", ("count",), ("count",)), put_kind(step, 1, b) == step]
[7, [0, 1], True, True]

>>> from selfprint.terms import children, is_term, letters_put, lifted, open_names, part, put_in, size_of
>>> twice = [("fun", step), ("fun", a), ("call",), ("name", 1), ("call",), ("name", 1), ("name", 0)]
>>> [is_term(twice), is_term([("call",), ("name", 0)]), children(twice, 2), part(twice, 4), size_of(twice), open_names(twice), open_names(part(twice, 4)), lifted([("name", 0)], 2)]
[True, False, [3, 4], [('call',), ('name', 1), ('name', 0)], 7, 0, 2, [('name', 2)]]

>>> [put_in(part(twice, 4), [("told", 3)]), put_in([("fun", a), ("name", 1)], [("name", 0)]), letters_put([("fun", a), ("name", 0)], 0, ("count",))]
[[('call',), ('name', 0), ('told', 3)], [('fun', ('letter', 0)), ('name', 1)], [('fun', ('count',)), ('name', 0)]]
'''


class Examples(unittest.TestCase):
    def test_examples(self):
        told = doctest.DocTestParser().get_doctest(EXAMPLES, {}, "examples", None, 0)
        self.assertEqual(len(told.examples), EXAMPLES.count(">>>"))
        faults = []
        doctest.DocTestRunner(verbose=False).run(told, out=faults.append)
        self.assertEqual("".join(faults), "")


if __name__ == "__main__":
    unittest.main()
