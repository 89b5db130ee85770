"""The interface: each name stands in its own file, with its parameters."""

import importlib
import inspect
import unittest

INTERFACE = {
    "basics": "is_integer(value) is_count(value) is_list(value)",
    "kinds": """is_kind(value) is_shown(kind) is_met(kind) is_data(kind) kind_size(kind) letters(kind)
        put_kind(kind,letter,other)""",
    "terms": """is_term(value) children(term,position) part(term,position) size_of(term) open_names(term)
        lifted(term,many) put_in(term,other) letters_put(term,letter,kind)""",
    "checked": """kind_of(names,term) fits(names,term) kinds_at(names,term) is_program(value)
        program_kind(program)""",
    "signs": "pieces(text)",
    "reader": "read_kind(text) read_term(text,outside) read_program(text)",
    "printer": "write_kind(kind) write_term(term,outside) written(program)",
    "steps": "first_steps(program) is_plain(program) stepped(program,position,rule)",
    "forms": "form(program) steps_of(program) is_steps(program,other,value) are_alike(program,other)",
    "worths": "data_term(kind,value)",
    "running": "value_of(program) call_row(program) call_count(program)",
    "machine": "Run(program)",
    "printing": """printed(program) print_calls(program) is_printed(program,value) is_long(kind,value)
        long_count(kind,many) long_programs(kind,many)""",
    "codes": "is_code(value) code_kind(code) shaken(code)",
    "compiler": "compiled(program)",
    "orders": "run_code(code) code_calls(code)",
    "decompiler": "decompiled(code)",
    "codetext": "code_text(code) read_code(text)",
}


class Interface(unittest.TestCase):
    def test_names_and_parameters(self):
        for file, told in INTERFACE.items():
            module = importlib.import_module(f"selfprint.{file}")
            for each in told.split():
                name, parameters = each.rstrip(")").split("(")
                function = getattr(module, name)
                self.assertEqual(function.__module__, f"selfprint.{file}", name)
                self.assertEqual(list(inspect.signature(function).parameters), parameters.split(","), name)

    def test_run(self):
        module = importlib.import_module("selfprint.machine")
        own = vars(module.Run)
        for name in ("calls", "is_done"):
            self.assertIsInstance(own[name], property, name)
        for name, parameters in (("go", ["self", "many"]), ("value", ["self"])):
            self.assertEqual(list(inspect.signature(own[name]).parameters), parameters, name)


if __name__ == "__main__":
    unittest.main()
