"""The interface: each name stands in its own file, with its parameters."""

import importlib
import inspect
import unittest

INTERFACE = {
    "basics": "is_integer(value) is_count(value) is_list(value)",
    "kinds": """is_kind(value) is_shown(kind) is_met(kind) is_data(kind) kind_size(kind) letters(kind)
        put_kind(kind,letter,other)""",
    "terms": """is_term(value) children(term,position) part(term,position) size_of(term) open_names(term)
        lifted(term,many) put_in(term,other) letters_put(term,letter,kind)""",
    "checked": """kind_of(names,term) fits(names,term) kinds_at(names,term) is_program(value)
        program_kind(program)""",
    "signs": "pieces(text)",
    "reader": "read_kind(text) read_term(text,outside) read_program(text)",
    "printer": "write_kind(kind) write_term(term,outside) written(program)",
    "steps": "first_steps(program) is_plain(program) stepped(program,position,rule)",
    "forms": "form(program) steps_of(program) is_steps(program,other,value) are_alike(program,other)",
    "worths": "data_term(kind,value)",
    "running": "value_of(program) call_row(program) call_count(program)",
    "machine": "Run(program)",
    "printing": """printed(program) print_calls(program) is_printed(program,value) is_long(kind,value)
        long_count(kind,many) long_programs(kind,many)""",
    "codes": "is_code(value) code_kind(code) shaken(code)",
    "compiler": "compiled(program)",
    "orders": "run_code(code) code_calls(code)",
    "decompiler": "decompiled(code)",
    "codetext": "code_text(code) read_code(text)",
    "left": """arrows(kind) called(program,arguments) left_of(program,arguments)
        called_at(program,places,arguments) left_at(program,places,arguments) is_left(program,arguments,value)
        behind(program,other) left_code(code,arguments)""",
    "tiny": "is_tiny(value) tiny_term(tiny) interpreter() tiny_left(tiny)",
    "ways": "first_parting(program,other) parting_depth(program,other) parted(program,other)",
    "callers": "row_kind(many) row_part(many,place) rows_put(many,program) test_of(program,other)",
    "parting": "is_test(program,other,value) asked(program,many,caller)",
    "texts": "sorts() is_of_sort(sort,value) filed(sort,value)",
    "files": "read(text)",
    "claims": """words() is_claim(value) is_true(claim) contrary(claim) paper_of(claim)
        is_paper_of(claim,value)""",
    "commands": "is_name(value) is_command(value) is_deed(value)",
    "desk": "Desk() Trial(desk) tried(desk,action)",
}


class Interface(unittest.TestCase):
    def test_names_and_parameters(self):
        for file, told in INTERFACE.items():
            module = importlib.import_module(f"selfprint.{file}")
            for each in told.split():
                name, parameters = each.rstrip(")").split("(")
                function = getattr(module, name)
                self.assertEqual(function.__module__, f"selfprint.{file}", name)
                wanted = [parameter for parameter in parameters.split(",") if parameter]
                self.assertEqual(list(inspect.signature(function).parameters), wanted, name)

    def test_run(self):
        module = importlib.import_module("selfprint.machine")
        own = vars(module.Run)
        for name in ("calls", "is_done"):
            self.assertIsInstance(own[name], property, name)
        for name, parameters in (("go", ["self", "many"]), ("value", ["self"])):
            self.assertEqual(list(inspect.signature(own[name]).parameters), parameters, name)

    def test_desk(self):
        module = importlib.import_module("selfprint.desk")
        own = vars(module.Desk)
        for name in ("names", "labels"):
            self.assertIsInstance(own[name], property, name)
        for told in ("do(command)", "__call__(command)", "do_all(commands)", "attempt(commands)", "attach(label,paper)",
                     "fits(label)", "claim_of(label)", "lines()", "copy()", "__len__()"):
            name, parameters = told.rstrip(")").split("(")
            wanted = ["self"] + [parameter for parameter in parameters.split(",") if parameter]
            self.assertEqual(list(inspect.signature(own[name]).parameters), wanted, name)
        for name in ("do_all", "attempt"):
            parameter = inspect.signature(own[name]).parameters["commands"]
            self.assertEqual(parameter.kind, inspect.Parameter.VAR_POSITIONAL, name)
        self.assertIsInstance(own["again"], classmethod)
        self.assertEqual(list(inspect.signature(module.Desk.again).parameters), ["lines"])
        for name in ("__contains__", "__getitem__"):
            self.assertIn(name, own)
        for name in ("__enter__", "__exit__"):
            self.assertIn(name, vars(module.Trial))


if __name__ == "__main__":
    unittest.main()
