"""Written forms read as values of their sorts."""

from selfprint.coderows import first_wrong_entry, read_written_kind, rows_read
from selfprint.errors import BadLine, LimitError, MissingError, TermError
from selfprint.forms import MOST_STEPS
from selfprint.printer import term_text
from selfprint.reader import read_program
from selfprint.rows import is_row_size
from selfprint.signs import read_count
from selfprint.texts import is_near_step


def read(text):
    """A tuple: the sort, and the value of it that has this written form."""
    if not isinstance(text, str):
        raise BadLine(0)
    # What stands behind the last line feed is a line without one, or nothing at all.
    lines = text.split("\n")
    last = lines.pop()
    if not lines:
        raise BadLine(1)
    sort, value = read_lines(lines)
    if last != "":
        raise BadLine(len(lines) + 1)
    return (sort, value)


def read_lines(lines):
    """As read, of one line at least, each of which has a line feed behind it."""
    if lines[0] == "code":
        return "code", read_entries(lines)
    if lines[0] == "steps":
        return "steps", [step_at(lines, place) for place in range(1, len(lines))]
    sort, _, rest = lines[0].partition(" ")
    value = read_value(sort, rest)
    if value is None:
        raise BadLine(1)
    if len(lines) > 1:
        raise BadLine(2)
    return sort, value


def read_entries(lines):
    """The code whose rows stand behind the first line."""
    entries, place = rows_read(lines[1:])
    if place is not None:
        raise BadLine(place + 2)
    if first_wrong_entry(entries) is not None:
        raise BadLine(len(lines) + 1)
    return entries


def step_at(lines, place):
    """The step that the line at this place tells."""
    step = read_step(lines[place])
    if step is None or place > MOST_STEPS:
        raise BadLine(place + 1)
    return step


def read_step(line):
    """The step that is written so; None if none is."""
    word, _, rest = line.partition(" ")
    number, _, rule = rest.partition(" ")
    step = (read_count(number), rule)
    return step if word == "step" and is_near_step(step) else None


def read_value(sort, text):
    """The value that is written so behind the word of a sort of one line; None if none is."""
    if sort == "kind":
        return read_written_kind(text)
    if sort == "program":
        return read_written_program(text)
    return read_written_test(text) if sort == "test" else None


def read_written_program(text):
    """The program of which this is the written text; None if there is none."""
    try:
        program = read_program(text)
    except (TermError, MissingError, LimitError):
        return None
    return program if term_text(program, []) == text else None


def read_written_test(text):
    """The tuple of a row's size and a program that is written so; None if none is."""
    number, _, rest = text.partition(" ")
    many = read_count(number)
    program = read_written_program(rest)
    return (many, program) if is_row_size(many) and program is not None else None
