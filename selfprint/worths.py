"""Worths of data kinds, as they are told, and their plain terms."""

from selfprint.basics import is_count
from selfprint.errors import InvalidWorth
from selfprint.kinds import need_data, need_kind
from selfprint.nodes import MOST_TOLD


def data_term(kind, value):
    """The plain term of a told worth of a data kind."""
    need_kind(kind)
    need_data(kind)
    if not is_worth(kind, value):
        raise InvalidWorth(value)
    return plain_term(kind, value)


def is_worth(kind, value):
    """Whether any value is a told worth of what is surely a data kind."""
    if kind[0] == "count":
        return is_count(value) and value <= MOST_TOLD
    if not isinstance(value, tuple) or not value or not isinstance(value[0], str):
        return False
    if kind[0] == "pair":
        is_pair = value[0] == "both" and len(value) == 3
        return is_pair and is_worth(kind[1], value[1]) and is_worth(kind[2], value[2])
    if value[0] not in ("left", "right") or len(value) != 2:
        return False
    return is_worth(kind[1] if value[0] == "left" else kind[2], value[1])


def plain_term(kind, worth):
    """As data_term, of what is surely a worth of the kind."""
    if kind[0] == "count":
        return [("told", worth)]
    if kind[0] == "pair":
        return [("both",)] + plain_term(kind[1], worth[1]) + plain_term(kind[2], worth[2])
    if worth[0] == "left":
        return [("left", kind[2])] + plain_term(kind[1], worth[1])
    return [("right", kind[1])] + plain_term(kind[2], worth[1])
