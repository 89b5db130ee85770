"""Codes run at once: their worths and their calls."""

from selfprint.coderun import CodeRun
from selfprint.codes import need_code
from selfprint.kinds import need_data


def run_code(code):
    """The worth, told, of a code of a data kind."""
    need_code(code)
    need_data(code[0][2])
    run = CodeRun(code)
    return run.worth()


def code_calls(code):
    """How many calls there are."""
    need_code(code)
    run = CodeRun(code)
    run.worth()
    return run.begun
