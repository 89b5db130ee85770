"""The pieces of a text, counts as they are written, and the names that may stand outside of it."""

from selfprint.basics import is_list
from selfprint.errors import BadText, InvalidOutside, InvalidText

SMALL_LETTERS = "abcdefghijklmnopqrstuvwxyz"
FIGURES = "0123456789"
KIND_LETTERS = "abcdef"
MARKS = ":.,()[]*+>="
BLANKS = " \n"
OWN_WORDS = ("fun", "let", "in", "which", "turns", "first", "second", "next", "left", "right", "count")
MOST_OUTSIDE = 8
MOST_FIGURES = 7
BEYOND = 10000000


def end_of_run(text, spot, signs):
    """The first spot from this one on at which none of the signs stands."""
    while spot < len(text) and text[spot] in signs:
        spot += 1
    return spot


def end_of_row(text, spot):
    """The spot of the line feed that ends the row, or the text's end."""
    found = text.find("\n", spot)
    return len(text) if found < 0 else found


def end_of_gap(text, spot):
    """The spot behind all blanks, line feeds and remarks from this one on."""
    spot = end_of_run(text, spot, BLANKS)
    while spot < len(text) and text[spot] == "#":
        spot = end_of_run(text, end_of_row(text, spot), BLANKS)
    return spot


def end_of_piece(text, spot):
    """The spot behind the piece that begins here; the spot itself if none does."""
    if text[spot] in SMALL_LETTERS:
        return end_of_run(text, spot, SMALL_LETTERS + FIGURES)
    if text[spot] in FIGURES:
        return end_of_run(text, spot, FIGURES)
    return spot + 1 if text[spot] in MARKS else spot


def scanned(text):
    """The list of the pieces up to the first sign that begins none, and that sign's spot, or the text's length."""
    found = []
    spot = end_of_gap(text, 0)
    while spot < len(text):
        end = end_of_piece(text, spot)
        if end == spot:
            return found, spot
        found.append((spot, text[spot:end]))
        spot = end_of_gap(text, end)
    return found, len(text)


def need_text(text):
    """InvalidText unless it is a string."""
    if not isinstance(text, str):
        raise InvalidText(text)


def pieces(text):
    """The list of the tuples (spot, piece) of a text's pieces."""
    need_text(text)
    found, spot = scanned(text)
    if spot < len(text):
        raise BadText(spot)
    return found


def is_word(piece):
    """Whether a string is a word, the language's own or another one."""
    return piece != "" and piece[0] in SMALL_LETTERS and end_of_piece(piece, 0) == len(piece)


def is_number(piece):
    """Whether a string is a count as it is written in a text."""
    return piece != "" and end_of_run(piece, 0, FIGURES) == len(piece)


def read_count(text):
    """The count that is written so, without needless zeros; None if none is.

    What has more figures than any bound comes as a count beyond all bounds, as
    Python does not read numbers of thousands of figures.
    """
    if not is_number(text) or (text[0] == "0" and text != "0"):
        return None
    return BEYOND if len(text) > MOST_FIGURES else int(text)


def is_name(piece):
    """Whether a string is a name."""
    return is_word(piece) and piece not in OWN_WORDS


def is_outside_name(value):
    """Whether any value is a name that cannot be mistaken for a written binder's name."""
    return isinstance(value, str) and is_name(value) and not (value[0] == "x" and is_number(value[1:]))


def is_outside(value):
    """Whether any value is an outside."""
    if not is_list(value) or len(value) > MOST_OUTSIDE:
        return False
    return all([is_outside_name(name) for name in value]) and len(set(value)) == len(value)


def need_outside(outside):
    """InvalidOutside unless it is an outside."""
    if not is_outside(outside):
        raise InvalidOutside(outside)
