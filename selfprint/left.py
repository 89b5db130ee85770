"""What is left of programs, and of codes, at some of their arguments."""

from selfprint.basics import is_count, is_list
from selfprint.checked import found_kinds, is_program, need_program
from selfprint.coderun import CodeRun
from selfprint.codes import moved_entry, moved_order, need_code
from selfprint.compiler import compiled
from selfprint.errors import InvalidArguments, InvalidPlaces, TooMany, UnlikeKinds
from selfprint.kinds import MOST_SIGNS, need_kind, need_shown, signs_of
from selfprint.printing import printed
from selfprint.readers import read_worth
from selfprint.terms import is_same_term, need_few_nodes


def arrows(kind):
    """The list of a kind's arguments."""
    need_kind(kind)
    return arguments_of(kind)


def arguments_of(kind):
    """As arrows, of what is surely a kind."""
    found = []
    while kind[0] == "fun":
        found.append(kind[1])
        kind = kind[2]
    return found


def kind_behind(kind, many):
    """What comes of a kind at so many arguments, which it has."""
    for _ in range(many):
        kind = kind[2]
    return kind


def are_of_kinds(value, kinds):
    """Whether any value is a list of programs of just these kinds."""
    if not is_list(value) or len(value) != len(kinds) or not all([is_program(one) for one in value]):
        return False
    return [found_kinds([], one)[0] for one in value] == list(kinds)


def are_arguments(kind, value):
    """Whether any value is a list of arguments, the first ones of the kind."""
    return is_list(value) and are_of_kinds(value, arguments_of(kind)[:len(value)])


def need_arguments(kind, arguments):
    """InvalidArguments unless it is a list of arguments, the first ones of the kind."""
    if not are_arguments(kind, arguments):
        raise InvalidArguments(arguments)


def called_freely(program, arguments):
    """The program called at them, however many nodes there are."""
    made = [("call",)] * len(arguments) + list(program)
    for argument in arguments:
        made.extend(argument)
    return made


def called(program, arguments):
    """The program called at some first arguments."""
    need_program(program)
    need_arguments(found_kinds([], program)[0], arguments)
    made = called_freely(program, arguments)
    need_few_nodes(made)
    return made


def left_of(program, arguments):
    """What is left of a program at some first arguments."""
    need_program(program)
    need_arguments(found_kinds([], program)[0], arguments)
    return printed_called(called_freely(program, arguments))


def printed_called(made):
    """What is left, of the program called at all that is told, however many nodes that has."""
    need_shown(found_kinds([], made)[0])
    need_few_nodes(made)
    return printed(made)


def is_left(program, arguments, value):
    """Whether any value is what is left."""
    nodes = left_of(program, arguments)
    return is_same_term(nodes, value)


def need_places(kind, places):
    """InvalidPlaces unless it is a list of rising places of arguments of the kind."""
    if not is_list(places) or not all([is_count(place) for place in places]):
        raise InvalidPlaces(places)
    is_rising = all([one < other for one, other in zip(places, places[1:])])
    if not is_rising or (places and places[-1] >= len(arguments_of(kind))):
        raise InvalidPlaces(places)


def need_told(program, places, arguments):
    """The errors of what is passed of called_at and left_at."""
    need_program(program)
    kind = found_kinds([], program)[0]
    need_places(kind, places)
    kinds = arguments_of(kind)
    if not are_of_kinds(arguments, [kinds[place] for place in places]):
        raise InvalidArguments(arguments)


def called_at_freely(program, places, arguments):
    """The program called at arguments at these places, however many nodes there are."""
    if not places:
        return list(program)
    kinds = arguments_of(found_kinds([], program)[0])[:places[-1] + 1]
    told = {place: list(argument) for place, argument in zip(places, arguments)}
    around = len(kinds) - len(told)
    made = [("fun", kind) for place, kind in enumerate(kinds) if place not in told]
    made.extend([("call",)] * len(kinds) + list(program))
    for place in range(len(kinds)):
        if place in told:
            made.extend(told[place])
        else:
            around -= 1
            made.append(("name", around))
    return made


def called_at(program, places, arguments):
    """The program called at arguments at these places, and at names for those between."""
    need_told(program, places, arguments)
    made = called_at_freely(program, places, arguments)
    need_few_nodes(made)
    return made


def left_at(program, places, arguments):
    """What is left of a program at arguments at these places."""
    need_told(program, places, arguments)
    return printed_called(called_at_freely(program, places, arguments))


def behind(program, other):
    """The other program behind the first one."""
    need_program(program)
    need_program(other)
    kind = found_kinds([], program)[0]
    other_kind = found_kinds([], other)[0]
    if kind[0] != "fun" or other_kind[0] != "fun" or kind[2] != other_kind[1]:
        raise UnlikeKinds()
    # It is no deeper than the two kinds are.
    if signs_of(("fun", kind[1], other_kind[2])) > MOST_SIGNS:
        raise TooMany("signs", MOST_SIGNS)
    made = [("fun", kind[1]), ("call",)] + list(other) + [("call",)] + list(program) + [("name", 0)]
    need_few_nodes(made)
    return made


def left_code(code, arguments):
    """What is left of a code at some first arguments, compiled: what it prints then."""
    need_code(code)
    need_arguments(code[0][2], arguments)
    kind = kind_behind(code[0][2], len(arguments))
    need_shown(kind)
    run = CodeRun(joined([compiled(argument) for argument in arguments], code))
    return read_worth(run, kind, run.worth())


def joined(arguments, code):
    """The entries of a code that is called at these codes, perhaps more than a code has.

    Entry 0 does what that of each does, which has no slots, and calls at once.
    """
    orders = list(code[0][3])
    entries = list(code[1:])
    for argument in arguments:
        # Its entry 0 is gone, so the next one stands where the entries end now.
        places = {position: len(entries) + position for position in range(1, len(argument))}
        orders.extend([moved_order(order, places) for order in argument[0][3]] + [("call",)])
        entries.extend([moved_entry(entry, places) for entry in argument[1:]])
    return [([], [], code[0][2], orders)] + entries
