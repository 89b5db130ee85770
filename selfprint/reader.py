"""Texts read as kinds, terms and programs."""

from selfprint.checked import found_kinds
from selfprint.errors import BadKind, NoKind
from selfprint.reading import kind_read, term_read
from selfprint.signs import need_outside, need_text


def read_kind(text):
    """The kind that a text is."""
    need_text(text)
    return kind_read(text)


def read_term(text, outside):
    """The term that a text is, with the names outside for its open names."""
    need_text(text)
    need_outside(outside)
    return term_read(text, outside)[0]


def read_program(text):
    """The program that a text is: BadKind where the first node that does not fit begins."""
    need_text(text)
    nodes, spots = term_read(text, [])
    try:
        found_kinds([], nodes)
    except NoKind as why:
        raise BadKind(spots[why.position])
    return nodes
