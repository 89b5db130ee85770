"""The errors: their classes, their bases, their attributes."""

import unittest

from selfprint import errors

FAMILIES = {
    "TermError": (ValueError, """
        InvalidKind(value) InvalidNames(value) InvalidProgram(value) InvalidTerm(value) InvalidMany(value)
        InvalidPosition(value) BadEntry(position) BadKind(spot) BadLine(line) BadText(spot) InvalidArguments(value)
        InvalidCaller(value) InvalidClaim(value) InvalidCode(value) InvalidCommand(value) InvalidLetter(value)
        InvalidLines(position) InvalidOutside(value) InvalidPaper(value) InvalidPlace(value) InvalidPlaces(value)
        InvalidRule(value) InvalidSort(value) InvalidText(value) InvalidTiny(value) InvalidValue(value)
        InvalidWorth(value)"""),
    "MissingError": (LookupError, "NothingNamed(value) UnknownLabel(value) UnknownName(spot)"),
    "StateError": (RuntimeError, """
        CommandFailed(position) LabelTaken(label) NameTaken(name) NoKind(position) NoStep() NotData() NotDone()
        NotShown() NothingToRedo() NothingToUndo() OpenName() UnlikeKinds()"""),
    "LimitError": (ArithmeticError, "TooMany(what,limit)"),
}
VALUES = [None, True, 0, "", "a", [1, [2]], (1,), {}, object(), ValueError]


def told_errors():
    """The tuples of a family's name, an error's name and its attributes."""
    for family, (_, names) in FAMILIES.items():
        for told in names.split():
            name, fields = told.rstrip(")").split("(")
            yield family, name, [field for field in fields.split(",") if field]


class Errors(unittest.TestCase):
    def test_families(self):
        for family, (top, _) in FAMILIES.items():
            self.assertEqual(getattr(errors, family).__bases__, (top,))

    def test_direct_subclasses(self):
        for family, name, _ in told_errors():
            self.assertEqual(getattr(errors, name).__bases__, (getattr(errors, family),), name)

    def test_no_other_classes(self):
        wanted = sorted(list(FAMILIES) + [name for _, name, _ in told_errors()])
        found = sorted(name for name, thing in vars(errors).items() if isinstance(thing, type))
        self.assertEqual(found, wanted)

    def test_attributes_by_position_and_by_name(self):
        for _, name, fields in told_errors():
            for value in VALUES:
                told = {field: value if field == fields[0] else [value, field] for field in fields}
                made = getattr(errors, name)
                for error in (made(*told.values()), made(**told)):
                    self.assertEqual(vars(error), told, name)
                    for field in fields:
                        self.assertIs(getattr(error, field), told[field])

    def test_raised_and_caught(self):
        for family, name, fields in told_errors():
            with self.assertRaises(getattr(errors, family)) as caught:
                raise getattr(errors, name)(*fields)
            self.assertIs(type(caught.exception), getattr(errors, name))

    def test_wanted_arguments(self):
        for _, name, fields in told_errors():
            if fields:
                with self.assertRaises(TypeError):
                    getattr(errors, name)()
                with self.assertRaises(TypeError):
                    getattr(errors, name)(*fields, 1)


if __name__ == "__main__":
    unittest.main()
