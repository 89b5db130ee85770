"""Codes written as texts, and read again."""

from selfprint.codes import need_code
from selfprint.coderows import entry_rows, first_wrong_entry, rows_read
from selfprint.errors import BadEntry, BadText, TooMany
from selfprint.printer import MOST_TEXT
from selfprint.signs import need_text


def code_text(code):
    """The text of a code."""
    need_code(code)
    rows = []
    for position, entry in enumerate(code):
        rows.extend(entry_rows(position, entry))
    text = "\n".join(rows)
    if len(text) > MOST_TEXT:
        raise TooMany("text", MOST_TEXT)
    return text


def read_code(text):
    """The code whose text it is."""
    need_text(text)
    rows = text.split("\n")
    entries, place = rows_read(rows)
    if place is not None:
        raise BadText(begin_of_row(rows, place))
    position = first_wrong_entry(entries)
    if position is not None:
        raise BadEntry(position)
    return entries


def begin_of_row(rows, place):
    """The spot at which the row there begins in their text; the text's length if there is none."""
    behind = sum([len(row) + 1 for row in rows[:place]])
    return behind if place < len(rows) else behind - 1
