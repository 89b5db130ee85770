"""The nodes of terms, and walks over terms that are surely terms."""

from selfprint.basics import is_count
from selfprint.kinds import is_kind

MOST_NODES = 300
MOST_OUT = 299
MOST_TOLD = 1000000
WITH_KIND = ("fun", "left", "right", "turns")

# For each word, child by child, how many binders more stand around the child.
BINDS = {
    "name": (),
    "fun": (1,),
    "call": (0, 0),
    "both": (0, 0),
    "first": (0,),
    "second": (0,),
    "left": (0,),
    "right": (0,),
    "which": (0, 1, 1),
    "told": (),
    "next": (0,),
    "turns": (0, 1, 0),
    "let": (0, 1),
}


def binds(word):
    """The tuple of how many binders more each child of such a node has around it."""
    return BINDS[word]


def is_node(value):
    """Whether any value is a node."""
    if not isinstance(value, tuple) or not value or not isinstance(value[0], str):
        return False
    word = value[0]
    if word in WITH_KIND:
        return len(value) == 2 and is_kind(value[1])
    if word == "name":
        return len(value) == 2 and is_count(value[1]) and value[1] <= MOST_OUT
    if word == "told":
        return len(value) == 2 and is_count(value[1]) and value[1] <= MOST_TOLD
    return len(value) == 1 and word in BINDS


def is_one_tree(nodes):
    """Whether a list of nodes forms just one tree."""
    wanted = 1
    for node in nodes:
        if wanted == 0:
            return False
        wanted = wanted - 1 + len(binds(node[0]))
    return wanted == 0


def binders(term):
    """For each node how many binders of the term stand around it."""
    waiting = [0]
    found = []
    for node in term:
        around = waiting.pop()
        found.append(around)
        more = [around + bound for bound in binds(node[0])]
        waiting.extend(more[::-1])
    return found


def ends(term):
    """For each node the position behind all that belongs to it."""
    found = [0] * len(term)
    for position in reversed(range(len(term))):
        end = position + 1
        for _ in binds(term[position][0]):
            end = found[end]
        found[position] = end
    return found


def child_places(term, position):
    """The list of the positions of a node's children."""
    return places_so(term, position, ends(term))


def all_child_places(term):
    """For each node the list of the positions of its children."""
    behind = ends(term)
    return [places_so(term, position, behind) for position in range(len(term))]


def places_so(term, position, behind):
    """As child_places, with the ends of the term's nodes."""
    found = []
    place = position + 1
    for _ in binds(term[position][0]):
        found.append(place)
        place = behind[place]
    return found


def child_parts(term):
    """The list of the children of the first node, each as a term."""
    behind = ends(term)
    return [term[place:behind[place]] for place in child_places(term, 0)]


def lifted_node(node, around, many):
    """The node, if it is an open name so many further out."""
    if node[0] == "name" and node[1] >= around:
        return ("name", node[1] + many)
    return node


def lifted_freely(term, many):
    """The term lifted, however far out its names come."""
    return [lifted_node(node, around, many) for node, around in zip(term, binders(term))]


def put_in_freely(term, other):
    """The term with the other one put in, however great it grows."""
    made = []
    for node, around in zip(term, binders(term)):
        if node == ("name", around):
            made.extend(lifted_freely(other, around))
        else:
            made.append(lifted_node(node, around, -1))
    return made


def furthest_name(term):
    """How far out the furthest name is; -1 without names."""
    return max([node[1] for node in term if node[0] == "name"], default=-1)
