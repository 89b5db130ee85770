"""Where two programs part: the way to the first place at which their plain long forms are unlike."""

from selfprint.checked import found_kinds, need_program
from selfprint.errors import UnlikeKinds
from selfprint.kinds import need_shown
from selfprint.nodes import ends, places_so
from selfprint.printing import printed
from selfprint.steps import HOLDERS


def need_one_shown(program, other):
    """The errors of two programs that are not of one shown kind."""
    need_program(program)
    need_program(other)
    kind = found_kinds([], program)[0]
    if kind != found_kinds([], other)[0]:
        raise UnlikeKinds()
    need_shown(kind)


def both_printed(program, other):
    """The plain long forms of two programs of one shown kind."""
    need_one_shown(program, other)
    return printed(program), printed(other)


def first_unlike(one, other):
    """The first position at which two plain long forms of one kind have unlike nodes; None if there is none."""
    for position, (node, other_node) in enumerate(zip(one, other)):
        if node != other_node:
            return position
    return None


def words_out(term, place):
    """The words of the parts and calls from a letter's place on, the outermost first."""
    end = place
    while term[end][0] in HOLDERS:
        end += 1
    return [node[0] for node in term[place:end]]


def step_into(term, place, number):
    """The list of the step from a node into its child of this number, or of none.

    The letter's place goes on with what is called, or parted, so no step leads there.
    """
    word = term[place][0]
    if word == "both":
        return [("first",)] if number == 0 else [("second",)]
    if word == "call" and number == 1:
        return [("argument", words_out(term, place + 1).count("call"))]
    return [] if word in HOLDERS else [(word,)]


def way_to(term, position):
    """The way to the place of a node of a plain long form."""
    behind = ends(term)
    way = []
    place = 0
    while place < position:
        # The last child that begins in time is the one with the node.
        children = [child for child in places_so(term, place, behind) if child <= position]
        way.extend(step_into(term, place, len(children) - 1))
        place = children[-1]
    return way


def way_of_parting(one, other):
    """The way of the first parting of two plain long forms of one kind; None if they are equal."""
    position = first_unlike(one, other)
    return None if position is None else way_to(one, position)


def first_parting(program, other):
    """The way of the first parting of two programs; None if they print alike."""
    one, two = both_printed(program, other)
    return way_of_parting(one, two)


def parting_depth(program, other):
    """How many steps of the first parting's way go into arguments; None if two programs print alike."""
    way = first_parting(program, other)
    return None if way is None else len([step for step in way if step[0] == "argument"])


def parted(program, other):
    """Whether two programs print unlike."""
    return first_parting(program, other) is not None
