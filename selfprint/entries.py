"""Entries of codes: what forms they have, and which are right."""

from selfprint.basics import is_count, is_list
from selfprint.checked import kind_so, whole_kind
from selfprint.kinds import COUNT, is_kind
from selfprint.nodes import MOST_TOLD

MOST_ENTRIES = 300
MOST_SLOTS = 60
MOST_ORDERS = 400

# Orders that are told by their word alone.
BARE_WORDS = ("given", "next", "both", "first", "second", "call", "which", "turns")
SOURCE_WORDS = ("slot", "given")

# How many kinds each order takes from the stack; it tells one in their place.
TAKES = {
    "slot": 0,
    "given": 0,
    "told": 0,
    "next": 1,
    "both": 2,
    "first": 1,
    "second": 1,
    "left": 1,
    "right": 1,
    "make": 0,
    "call": 2,
    "which": 3,
    "turns": 3,
}


def is_order(value):
    """Whether any value has the form of an order."""
    if not isinstance(value, tuple) or not value or not isinstance(value[0], str):
        return False
    word = value[0]
    if word in BARE_WORDS:
        return len(value) == 1
    if word == "make":
        return len(value) == 3 and is_count(value[1]) and is_list_of_sources(value[2])
    if len(value) != 2:
        return False
    if word == "slot":
        return is_count(value[1])
    if word == "told":
        return is_count(value[1]) and value[1] <= MOST_TOLD
    return word in ("left", "right") and is_kind(value[1])


def is_list_of_sources(value):
    """Whether any value is a list of orders that can be sources of a make."""
    return is_list(value) and all([is_order(one) and one[0] in SOURCE_WORDS for one in value])


def is_entry(value, position):
    """Whether any value has the form of an entry that stands there."""
    if not isinstance(value, tuple) or len(value) != 4:
        return False
    slots, given, kind, orders = value
    if not is_list_of_kinds(slots, 0, 0 if position == 0 else MOST_SLOTS):
        return False
    wanted = 0 if position == 0 else 1
    if not is_list_of_kinds(given, wanted, wanted) or not is_kind(kind):
        return False
    return is_list(orders) and 1 <= len(orders) <= MOST_ORDERS and all([is_order(order) for order in orders])


def is_list_of_kinds(value, least, most):
    """Whether any value is a list of at least and at most so many kinds."""
    return is_list(value) and least <= len(value) <= most and all([is_kind(kind) for kind in value])


# Each is called with an order, the place of its entry, a tuple of all entries
# and a position, and the kinds that it takes; None tells that it is not right.


def kind_of_slot(order, place, taken):
    """The kind of a slot, if it is there."""
    entries, position = place
    slots = entries[position][0]
    return slots[order[1]] if order[1] < len(slots) else None


def kind_of_given(order, place, taken):
    """The kind of what is given, if something is."""
    entries, position = place
    given = entries[position][1]
    return given[0] if given else None


def kind_of_make(order, place, taken):
    """The kind of a made one of a later entry, if the sources are of the kinds of its slots."""
    entries, position = place
    if not position < order[1] < len(entries):
        return None
    slots, given, kind, _ = entries[order[1]]
    if [kind_of_source(source, place) for source in order[2]] != list(slots):
        return None
    return whole_kind("fun", given[0], kind)


def kind_of_source(source, place):
    """The kind of a source of a make; None if it is not there."""
    return kind_of_slot(source, place, []) if source[0] == "slot" else kind_of_given(source, place, [])


def kind_of_arms(order, place, taken):
    """What both functions tell, each of one side of the sum."""
    told, left, right = taken
    if told[0] != "sum" or left[0] != "fun" or right[0] != "fun":
        return None
    if left[1] != told[1] or right[1] != told[2] or left[2] != right[2]:
        return None
    return left[2]


def kind_of_turned(order, place, taken):
    """The start's kind, which the function takes and tells."""
    count, start, function = taken
    return start if count == COUNT and function == ("fun", start, start) else None


KINDS_OF_ORDERS = {
    "slot": kind_of_slot,
    "given": kind_of_given,
    "make": kind_of_make,
    "which": kind_of_arms,
    "turns": kind_of_turned,
}


def kind_told(order, place, taken):
    """The kind that an order tells; None if it is not right."""
    if order[0] in KINDS_OF_ORDERS:
        action = KINDS_OF_ORDERS[order[0]]
        return action(order, place, taken)
    # The other orders tell what nodes of their names have.
    return kind_so(order, (), taken)


def is_right(entries, position):
    """Whether the entry there is right, all entries being of the form of entries."""
    place = (entries, position)
    stack = []
    for order in entries[position][3]:
        rest = len(stack) - TAKES[order[0]]
        if rest < 0:
            return False
        kind = kind_told(order, place, stack[rest:])
        if kind is None:
            return False
        del stack[rest:]
        stack.append(kind)
    return stack == [entries[position][2]]
