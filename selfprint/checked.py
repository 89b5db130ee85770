"""What fits: the kinds of nodes, and which terms are programs."""

from selfprint.basics import is_list
from selfprint.errors import InvalidNames, InvalidProgram, NoKind
from selfprint.kinds import COUNT, is_kind, is_too_great
from selfprint.nodes import binds
from selfprint.terms import is_term, need_term

MOST_NAMES = 8


def whole_kind(word, left, right):
    """The kind made of two kinds; None if it would be too great for one."""
    made = (word, left, right)
    return None if is_too_great(made) else made


def kind_of_name(node, row, below):
    """A name has the kind of what it stands for, if there is such a thing."""
    return row[node[1]] if node[1] < len(row) else None


def kind_of_fun(node, row, below):
    """A fun takes what it binds, and gives what its body has."""
    return whole_kind("fun", node[1], below[0])


def kind_of_call(node, row, below):
    """A call has what the function gives, if it takes the argument."""
    function, argument = below
    return function[2] if function[0] == "fun" and function[1] == argument else None


def kind_of_both(node, row, below):
    """A both has the pair of both kinds."""
    return whole_kind("pair", below[0], below[1])


def kind_of_first(node, row, below):
    """A first has a pair's first kind."""
    return below[0][1] if below[0][0] == "pair" else None


def kind_of_second(node, row, below):
    """A second has a pair's second kind."""
    return below[0][2] if below[0][0] == "pair" else None


def kind_of_left(node, row, below):
    """A left tells the kind on the right."""
    return whole_kind("sum", below[0], node[1])


def kind_of_right(node, row, below):
    """A right tells the kind on the left."""
    return whole_kind("sum", node[1], below[0])


def kind_of_which(node, row, below):
    """A which has the kind of both arms."""
    return below[1] if below[1] == below[2] else None


def kind_of_count(node, row, below):
    """A told count, and the next one of a count, is a count."""
    return COUNT if all([kind == COUNT for kind in below]) else None


def kind_of_turns(node, row, below):
    """A turns takes a count, and its step and its start have its kind."""
    return node[1] if below == [COUNT, node[1], node[1]] else None


def kind_of_let(node, row, below):
    """A let has its body's kind."""
    return below[1]


# Each is called with a node, the row of kinds of the names around it, the
# nearest first, and the kinds of its children; None tells that it does not fit.
KINDS_OF_WORDS = {
    "name": kind_of_name,
    "fun": kind_of_fun,
    "call": kind_of_call,
    "both": kind_of_both,
    "first": kind_of_first,
    "second": kind_of_second,
    "left": kind_of_left,
    "right": kind_of_right,
    "which": kind_of_which,
    "told": kind_of_count,
    "next": kind_of_count,
    "turns": kind_of_turns,
    "let": kind_of_let,
}


def kind_so(node, row, below):
    """The node's kind, with names of the kinds in the row, and children of those below; None if it does not fit."""
    action = KINDS_OF_WORDS[node[0]]
    return action(node, row, below)


def bound_kind(node, below):
    """The kind that a node binds in its next child; None if it cannot tell one."""
    if node[0] == "let":
        return below[0]
    if node[0] == "which":
        return below[0][len(below)] if below[0][0] == "sum" else None
    return node[1]


def child_row(node, row, below):
    """The row around the next child of a node; None if it cannot be told."""
    if binds(node[0])[len(below)] == 0:
        return row
    bound = bound_kind(node, below)
    return None if bound is None else (bound,) + row


def found_kinds(names, term):
    """The kinds of all nodes of what is surely a term: NoKind with the first node that does not fit."""
    kinds = [None] * len(term)
    entered = 1
    waiting = [(0, tuple(names), [])]
    while waiting:
        position, row, below = waiting[-1]
        node = term[position]
        if len(below) < len(binds(node[0])):
            inner_row = child_row(node, row, below)
            if inner_row is None:
                raise NoKind(position)
            waiting.append((entered, inner_row, []))
            entered += 1
            continue
        kinds[position] = kind_so(node, row, below)
        if kinds[position] is None:
            raise NoKind(position)
        waiting.pop()
        if waiting:
            waiting[-1][2].append(kinds[position])
    return kinds


def need_names(names):
    """InvalidNames unless it is a list of 0 to 8 kinds."""
    if not is_list(names) or len(names) > MOST_NAMES or not all([is_kind(kind) for kind in names]):
        raise InvalidNames(names)


def kind_of(names, term):
    """The term's kind, with the kinds of its open names, the nearest one first."""
    return kinds_at(names, term)[0]


def fits(names, term):
    """Whether the term fits, with the kinds of its open names."""
    need_names(names)
    need_term(term)
    return fits_so(names, term)


def fits_so(names, term):
    """As fits, of what are surely names and a term."""
    try:
        found_kinds(names, term)
    except NoKind:
        return False
    return True


def kinds_at(names, term):
    """The list of the kinds of the term's nodes."""
    need_names(names)
    need_term(term)
    return found_kinds(names, term)


def is_program(value):
    """Whether any value is a program."""
    return is_term(value) and fits_so([], value)


def need_program(program):
    """InvalidProgram unless it is a program."""
    if not is_program(program):
        raise InvalidProgram(program)


def program_kind(program):
    """The kind of a program."""
    need_program(program)
    return found_kinds([], program)[0]
