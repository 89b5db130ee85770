"""Codes written as texts, and read again."""

from selfprint.codes import need_code
from selfprint.coderows import entries_read, entry_rows
from selfprint.entries import MOST_ENTRIES, is_entry, is_right
from selfprint.errors import BadEntry, TooMany
from selfprint.printer import MOST_TEXT
from selfprint.signs import need_text


def code_text(code):
    """The text of a code."""
    need_code(code)
    rows = []
    for position, entry in enumerate(code):
        rows.extend(entry_rows(position, entry))
    text = "\n".join(rows)
    if len(text) > MOST_TEXT:
        raise TooMany("text", MOST_TEXT)
    return text


def read_code(text):
    """The code whose text it is."""
    need_text(text)
    entries = entries_read(text)
    for position, entry in enumerate(entries):
        # is_right wants the form of its own entry alone: others have all kinds by their rows.
        if position >= MOST_ENTRIES or not is_entry(entry, position) or not is_right(entries, position):
            raise BadEntry(position)
    return entries
