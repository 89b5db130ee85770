"""Codes: what they are, and which of their entries are reached."""

from selfprint.basics import is_list
from selfprint.entries import MOST_ENTRIES, is_entry, is_right
from selfprint.errors import InvalidCode


def is_code(value):
    """Whether any value is a code."""
    if not is_list(value) or not 1 <= len(value) <= MOST_ENTRIES:
        return False
    positions = range(len(value))
    if not all([is_entry(value[position], position) for position in positions]):
        return False
    return all([is_right(value, position) for position in positions])


def need_code(code):
    """InvalidCode unless it is a code."""
    if not is_code(code):
        raise InvalidCode(code)


def code_kind(code):
    """The kind of a code."""
    need_code(code)
    return code[0][2]


def shaken(code):
    """The code with its reached entries alone."""
    need_code(code)
    reached = reached_entries(code)
    places = {position: place for place, position in enumerate(reached)}
    return [moved_entry(code[position], places) for position in reached]


def reached_entries(code):
    """The rising list of the positions of the reached entries of what is surely a code."""
    is_reached = {0: True}
    for position, entry in enumerate(code):
        # A make is of a later entry alone, so none ahead of this one is reached any more.
        if position in is_reached:
            for order in entry[3]:
                if order[0] == "make":
                    is_reached[order[1]] = True
    return sorted(list(is_reached))


def moved_entry(entry, places):
    """The entry with entries told by their new places."""
    slots, given, kind, orders = entry
    return (list(slots), list(given), kind, [moved_order(order, places) for order in orders])


def moved_order(order, places):
    """The order with the entry of a make told by its new place."""
    if order[0] != "make":
        return order
    return ("make", places[order[1]], list(order[2]))
