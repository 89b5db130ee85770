"""Values of sorts, and their written forms."""

from selfprint.basics import is_list
from selfprint.checked import is_program
from selfprint.codes import is_code
from selfprint.codetext import code_text
from selfprint.errors import InvalidSort, InvalidValue
from selfprint.forms import MOST_STEPS, is_step
from selfprint.kinds import is_kind
from selfprint.nodes import MOST_NODES
from selfprint.printer import write_kind, written
from selfprint.rows import is_row_size

SORTS = ("kind", "program", "code", "steps", "test")


def sorts():
    """The list of the words of the sorts, in their sequence."""
    return list(SORTS)


def need_sort(sort):
    """InvalidSort unless it is the word of a sort."""
    if not isinstance(sort, str) or sort not in SORTS:
        raise InvalidSort(sort)


def is_near_step(value):
    """Whether any value is a tuple of a COUNT that a position can be, and a rule."""
    return is_step(value) and value[0] < MOST_NODES


def is_row_of_steps(value):
    """Whether any value is a list of steps as a file has them."""
    return is_list(value) and len(value) <= MOST_STEPS and all([is_near_step(step) for step in value])


def is_like_test(value):
    """Whether any value is a tuple of a row's size and a program."""
    return isinstance(value, tuple) and len(value) == 2 and is_row_size(value[0]) and is_program(value[1])


def is_of_sort(sort, value):
    """Whether any value is one of this sort."""
    need_sort(sort)
    if sort == "kind":
        return is_kind(value)
    if sort == "program":
        return is_program(value)
    if sort == "code":
        return is_code(value)
    return is_row_of_steps(value) if sort == "steps" else is_like_test(value)


def filed(sort, value):
    """The written form of a value of a sort."""
    if not is_of_sort(sort, value):
        raise InvalidValue(value)
    return "".join([line + "\n" for line in form_lines(sort, value)])


def form_lines(sort, value):
    """The lines of what is surely a value of the sort."""
    if sort == "kind":
        return [f"kind {write_kind(value)}"]
    if sort == "program":
        return [f"program {written(value)}"]
    if sort == "code":
        return ["code"] + code_text(value).split("\n")
    if sort == "steps":
        return ["steps"] + [f"step {position} {rule}" for position, rule in value]
    return [f"test {value[0]} {written(value[1])}"]
