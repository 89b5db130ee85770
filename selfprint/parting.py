"""Tests, and what callers come to."""

from selfprint.callers import caller_kind, comes_to, need_row_size, rows_put
from selfprint.checked import found_kinds, is_program, need_program
from selfprint.errors import InvalidCaller, TooMany
from selfprint.rows import is_row_size
from selfprint.ways import need_one_shown


def is_caller(value, many, kind):
    """Whether any value is a program that can be called at programs of the kind, put as rows, and tells a count."""
    return is_program(value) and found_kinds([], value)[0] == caller_kind(many, kind)


def is_test(program, other, value):
    """Whether any value is a test of the one and the other program."""
    need_one_shown(program, other)
    if not isinstance(value, tuple) or len(value) != 2:
        return False
    many, caller = value
    if not is_row_size(many) or not is_caller(caller, many, found_kinds([], program)[0]):
        return False
    try:
        told = [comes_to(caller, rows_put(many, called)) for called in (program, other)]
    except TooMany:
        return False
    return told == [0, 1]


def asked(program, many, caller):
    """The count to which a caller comes, called at the program put as rows of so many counts."""
    need_program(program)
    need_row_size(many)
    if not is_caller(caller, many, found_kinds([], program)[0]):
        raise InvalidCaller(caller)
    return comes_to(caller, rows_put(many, program))
