"""Rows of steps: the forms to which they lead, and programs that are alike."""

from selfprint.basics import is_count, is_list
from selfprint.checked import found_kinds, need_program
from selfprint.errors import TooMany
from selfprint.steps import is_rule, small_step, steps_from

MOST_STEPS = 200


def form(program):
    """The form of a program."""
    need_program(program)
    return led_to_form(program)[0]


def steps_of(program):
    """A row of steps that leads a program to its form."""
    need_program(program)
    return led_to_form(program)[1]


def led_to_form(program):
    """The form of what is surely a program, and the list of the steps to it, each the least first step."""
    made = list(program)
    row = []
    coming = steps_from(made)
    while coming:
        if len(row) == MOST_STEPS:
            raise TooMany("steps", MOST_STEPS)
        position, rule = coming[0]
        made = small_step(made, position, rule)
        row.append((position, rule))
        coming = steps_from(made)
    return made, row


def is_step(value):
    """Whether any value is a tuple of a COUNT and a rule."""
    return isinstance(value, tuple) and len(value) == 2 and is_count(value[0]) and is_rule(value[1])


def is_steps(program, other, value):
    """Whether any value is a row of steps that leads the program to the other one."""
    need_program(program)
    need_program(other)
    if not is_list(value) or not all([is_step(step) for step in value]):
        return False
    made = list(program)
    for position, rule in value:
        if (position, rule) not in steps_from(made):
            return False
        try:
            made = small_step(made, position, rule)
        except TooMany:
            return False
    return made == list(other)


def are_alike(program, other):
    """Whether two programs are alike: False, ahead of all steps, if their kinds are unlike."""
    need_program(program)
    need_program(other)
    if found_kinds([], program)[0] != found_kinds([], other)[0]:
        return False
    return led_to_form(program)[0] == led_to_form(other)[0]
