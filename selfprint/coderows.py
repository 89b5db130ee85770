"""The rows of the texts of codes, written and read one by one."""

from selfprint.entries import BARE_WORDS, MOST_ENTRIES, SOURCE_WORDS, is_entry, is_right
from selfprint.errors import BadText, TooMany
from selfprint.printer import LOOSE, kind_text
from selfprint.reading import kind_read
from selfprint.signs import read_count

INDENT = "  "
KIND_ROWS = ("slot", "given", "tells")

# Which rows can stand behind a row of each name.
BEHIND = {
    "entry": ("slot", "given"),
    "slot": ("slot", "given"),
    "given": ("tells",),
    "tells": ("order",),
    "order": ("order", "entry"),
}


def entry_rows(position, entry):
    """The rows of an entry."""
    slots, given, kind, orders = entry
    rows = [f"entry {position}"]
    rows.extend([f"slot {kind_text(slot, LOOSE)}" for slot in slots])
    rows.extend([f"given {kind_text(one, LOOSE)}" for one in given])
    rows.append(f"tells {kind_text(kind, LOOSE)}")
    rows.extend([INDENT + order_text(order) for order in orders])
    return rows


def order_text(order):
    """The text of an order."""
    word = order[0]
    if word in ("left", "right"):
        return f"{word}[{kind_text(order[1], LOOSE)}]"
    if word == "make" and len(order[2]) > 0:
        sources = ", ".join([order_text(source) for source in order[2]])
        return f"make {order[1]}: {sources}"
    return word if word in BARE_WORDS else f"{word} {order[1]}"


def rows_read(rows):
    """A tuple: the entries that rows tell, right or not, and the place of the first row at fault.

    The place is None if there is none, and the number of the rows if more are wanted.
    """
    entries = []
    wanted = ("entry",)
    for place, row in enumerate(rows):
        name, told = read_row(row, len(entries))
        if told is None or name not in wanted:
            return [], place
        put_row(entries, name, told)
        # Entry 0 has no slots, and nothing is given.
        wanted = ("tells",) if name == "entry" and len(entries) == 1 else BEHIND[name]
    if not rows or "entry" not in wanted:
        return [], len(rows)
    return [tuple(entry) for entry in entries], None


def first_wrong_entry(entries):
    """The position of the first entry that is not right, or beyond a bound; None if there is none."""
    for position, entry in enumerate(entries):
        # is_right wants the form of its own entry alone: others have all kinds by their rows.
        if position >= MOST_ENTRIES or not is_entry(entry, position) or not is_right(entries, position):
            return position
    return None


def put_row(entries, name, told):
    """What a row tells is put into the last entry, or begins one."""
    if name == "entry":
        entries.append([[], [], None, []])
    elif name == "slot":
        entries[-1][0].append(told)
    elif name == "given":
        entries[-1][1].append(told)
    elif name == "tells":
        entries[-1][2] = told
    else:
        entries[-1][3].append(told)


def read_row(row, position):
    """A tuple: the row's name, and what it tells, None if it is no row as told; position is that of a next entry."""
    if row.startswith(INDENT):
        return "order", read_order(row[len(INDENT):])
    name, _, rest = row.partition(" ")
    if name in KIND_ROWS:
        return name, read_written_kind(rest)
    return "entry", position if row == f"entry {position}" else None


def read_written_kind(text):
    """The kind of which this is the written text; None if there is none."""
    try:
        kind = kind_read(text)
    except BadText:
        return None
    except TooMany:
        return None
    return kind if kind_text(kind, LOOSE) == text else None


def read_order(text):
    """The order that is written so; None if none is."""
    if text in BARE_WORDS:
        return (text,)
    word, _, rest = text.partition(" ")
    if word == "make":
        return read_make(rest)
    if word in ("slot", "told"):
        return with_part(word, read_count(rest))
    side, _, rest = text.partition("[")
    if side in ("left", "right") and rest.endswith("]"):
        return with_part(side, read_written_kind(rest[:-1]))
    return None


def with_part(word, part):
    """The order of the word and this part; None if the part is."""
    return None if part is None else (word, part)


def read_make(text):
    """The make whose entry and sources are written so; None if none is."""
    number, colon, rest = text.partition(": ")
    entry = read_count(number)
    sources = [read_order(source) for source in rest.split(", ")] if colon else []
    if entry is None or not all([is_told_source(source) for source in sources]):
        return None
    return ("make", entry, sources)


def is_told_source(order):
    """Whether an order was read that can be a source."""
    return order is not None and order[0] in SOURCE_WORDS
