"""Terms: their trees, their open names, and terms and kinds put in them."""

from selfprint.basics import is_count, is_list
from selfprint.errors import InvalidMany, InvalidPosition, InvalidTerm, TooMany
from selfprint.kinds import need_kind, need_letter, put_small
from selfprint.nodes import MOST_NODES, MOST_OUT, WITH_KIND
from selfprint.nodes import binders, child_places, ends, furthest_name
from selfprint.nodes import is_node, is_one_tree, lifted_freely, put_in_freely

MOST_LIFTED = 100


def is_term(value):
    """Whether any value is a term."""
    if not is_list(value) or not 1 <= len(value) <= MOST_NODES:
        return False
    return all([is_node(node) for node in value]) and is_one_tree(value)


def need_term(term):
    """InvalidTerm unless it is a term."""
    if not is_term(term):
        raise InvalidTerm(term)


def need_position(term, position):
    """InvalidPosition unless it is a position of what is surely a term."""
    if not is_count(position) or position >= len(term):
        raise InvalidPosition(position)


def children(term, position):
    """The list of the positions of the node's children."""
    need_term(term)
    need_position(term, position)
    return child_places(term, position)


def part(term, position):
    """The node there with all that belongs to it, a term."""
    need_term(term)
    need_position(term, position)
    return list(term[position:ends(term)[position]])


def size_of(term):
    """How many nodes a term has."""
    need_term(term)
    return len(term)


def open_names(term):
    """How many open names a term needs at least."""
    need_term(term)
    wanted = [node[1] - around + 1 for node, around in zip(term, binders(term)) if node[0] == "name"]
    return max([0] + wanted)


def is_same_term(term, value):
    """Whether any value is a term, and equal to what is surely one."""
    return is_term(value) and list(value) == list(term)


def need_few_nodes(nodes):
    """TooMany if there are more nodes than a term has."""
    if len(nodes) > MOST_NODES:
        raise TooMany("nodes", MOST_NODES)


def need_near_names(term):
    """TooMany if a name is further out than a name can be."""
    if furthest_name(term) > MOST_OUT:
        raise TooMany("names", MOST_OUT)


def lifted(term, many):
    """The term lifted by a number from 0 to 100."""
    need_term(term)
    if not is_count(many) or many > MOST_LIFTED:
        raise InvalidMany(many)
    made = lifted_freely(term, many)
    need_near_names(made)
    return made


def put_in(term, other):
    """The term with the other one put in."""
    need_term(term)
    need_term(other)
    made = put_in_freely(term, other)
    need_few_nodes(made)
    need_near_names(made)
    return made


def letters_put(term, letter, kind):
    """The term with the letter put in all kinds told in it."""
    need_term(term)
    need_letter(letter)
    need_kind(kind)
    made = []
    for node in term:
        if node[0] in WITH_KIND:
            made.append((node[0], put_small(node[1], letter, kind)))
        else:
            made.append(node)
    return made
