"""Programs run at once: their worths and their calls."""

from selfprint.checked import found_kinds, need_program
from selfprint.kinds import need_data
from selfprint.termrun import TermRun


def value_of(program):
    """The worth, told, of a program of a data kind."""
    need_program(program)
    need_data(found_kinds([], program)[0])
    run = TermRun(program)
    return run.worth()


def call_row(program):
    """The call row of a program."""
    need_program(program)
    run = TermRun(program)
    run.worth()
    return run.begun


def call_count(program):
    """How many calls there are."""
    return len(call_row(program))
