"""Programs printed by calls alone, and the plain long ones."""

from selfprint.basics import is_count
from selfprint.checked import found_kinds, is_program, need_program
from selfprint.errors import InvalidMany, TooMany
from selfprint.kinds import need_kind, need_shown
from selfprint.longs import Longs
from selfprint.readers import read_worth
from selfprint.steps import HOLDERS
from selfprint.termrun import TermRun
from selfprint.terms import is_same_term

MOST_LONG = 12
MOST_PROGRAMS = 400
ROW_WORDS = ("name", "call", "first", "second")

# By which words something is told, for each word of its kind.
TOLD_BY = {
    "fun": ("fun",),
    "pair": ("both",),
    "sum": ("left", "right"),
    "count": ("told",),
    "letter": ROW_WORDS,
}


def print_of(program):
    """A tuple: the printed form of a program, and how many calls it makes."""
    need_program(program)
    kind = found_kinds([], program)[0]
    need_shown(kind)
    run = TermRun(program)
    nodes = read_worth(run, kind, run.worth())
    return nodes, len(run.begun)


def printed(program):
    """The printed form of a program."""
    return print_of(program)[0]


def print_calls(program):
    """How many calls a program's print makes."""
    return print_of(program)[1]


def is_printed(program, value):
    """Whether any value is the printed form of a program."""
    nodes = printed(program)
    return is_same_term(nodes, value)


def is_long(kind, value):
    """Whether any value is a plain long program of the kind."""
    need_kind(kind)
    need_shown(kind)
    if not is_program(value):
        return False
    kinds = found_kinds([], value)
    return kinds[0] == kind and all([is_long_at(value, place, kinds[place]) for place in range(len(value))])


def is_long_at(program, position, kind):
    """Whether the node, of this kind, is one that a plain long program has there."""
    word = program[position][0]
    # What is called, or parted, stands right behind what does so.
    if position > 0 and program[position - 1][0] in HOLDERS:
        return word in ROW_WORDS
    return word in TOLD_BY[kind[0]]


def need_long(kind, many):
    """The errors of long_count and long_programs but for TooMany."""
    need_kind(kind)
    if not is_count(many) or not 1 <= many <= MOST_LONG:
        raise InvalidMany(many)
    need_shown(kind)


def long_count(kind, many):
    """How many plain long programs of the kind have just so many nodes."""
    need_long(kind, many)
    longs = Longs(kind)
    return longs.many_terms(0, (), many)


def long_programs(kind, many):
    """The sorted list of all plain long programs of the kind with at most so many nodes."""
    need_long(kind, many)
    longs = Longs(kind)
    sizes = list(range(1, many + 1))
    if sum([longs.many_terms(0, (), size) for size in sizes]) > MOST_PROGRAMS:
        raise TooMany("programs", MOST_PROGRAMS)
    found = []
    for size in sizes:
        found.extend(longs.terms(0, (), size))
    return sorted(found)
