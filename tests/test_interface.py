"""The interface: each name stands in its own file, with its parameters."""

import importlib
import inspect
import unittest

INTERFACE = {
    "basics": "is_integer(value) is_count(value) is_list(value)",
    "kinds": """is_kind(value) is_shown(kind) is_met(kind) is_data(kind) kind_size(kind) letters(kind)
        put_kind(kind,letter,other)""",
    "terms": """is_term(value) children(term,position) part(term,position) size_of(term) open_names(term)
        lifted(term,many) put_in(term,other) letters_put(term,letter,kind)""",
    "checked": """kind_of(names,term) fits(names,term) kinds_at(names,term) is_program(value)
        program_kind(program)""",
    "signs": "pieces(text)",
    "reader": "read_kind(text) read_term(text,outside) read_program(text)",
    "printer": "write_kind(kind) write_term(term,outside) written(program)",
    "steps": "first_steps(program) is_plain(program) stepped(program,position,rule)",
}


class Interface(unittest.TestCase):
    def test_names_and_parameters(self):
        for file, told in INTERFACE.items():
            module = importlib.import_module(f"selfprint.{file}")
            for each in told.split():
                name, parameters = each.rstrip(")").split("(")
                function = getattr(module, name)
                self.assertEqual(function.__module__, f"selfprint.{file}", name)
                self.assertEqual(list(inspect.signature(function).parameters), parameters.split(","), name)


if __name__ == "__main__":
    unittest.main()
