"""Rows of counts, and kinds with such rows in the place of all letters."""

from selfprint.basics import is_count
from selfprint.kinds import COUNT, inner_kinds

MOST_ROW = 11


def is_row_size(value):
    """Whether any value tells of how many counts a row can be."""
    return is_count(value) and 1 <= value <= MOST_ROW


def row_of(many):
    """The kind of a row of so many counts."""
    kind = COUNT
    for _ in range(many - 1):
        kind = ("pair", COUNT, kind)
    return kind


def part_words(many, place):
    """The nodes, ahead of a row of so many counts, that take the count at a place."""
    seconds = [("second",)] * place
    return seconds if place == many - 1 else [("first",)] + seconds


def kind_in_rows(kind, row):
    """The kind with a row's kind in the place of each letter, however great it grows."""
    if kind[0] == "letter":
        return row
    if kind[0] == "count":
        return kind
    return (kind[0], kind_in_rows(kind[1], row), kind_in_rows(kind[2], row))


def signs_in_rows(kind, many):
    """How many signs the kind has then."""
    if kind[0] == "letter":
        return 2 * many - 1
    return 1 + sum([signs_in_rows(inner, many) for inner in inner_kinds(kind)])


def depth_in_rows(kind, many):
    """How deep the kind is then."""
    if kind[0] == "letter":
        return many
    return 1 + max([depth_in_rows(inner, many) for inner in inner_kinds(kind)], default=0)
