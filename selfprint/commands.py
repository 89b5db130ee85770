"""Commands of a desk, by their words alone."""

from selfprint.signs import FIGURES, SMALL_LETTERS, read_count
from selfprint.steps import is_rule

MOST_SIGNS_OF_NAME = 8
MOST_FIGURES_OF_COUNT = 3
MOST_OTHERS = 4

# The parts behind a command's word. Those of SORTED are names of things of such
# a sort, "others" one to four of programs, "thing" a name of any sort, and "like"
# one of the sort of the name ahead.
SORTED = ("program", "kind", "code")
DEEDS = {
    "program": ("new", "text"),
    "kind": ("new", "text"),
    "form": ("new", "program"),
    "print": ("new", "program"),
    "call": ("new", "program", "others"),
    "left": ("new", "program", "others"),
    "after": ("new", "program", "program"),
    "code": ("new", "program"),
    "shaken": ("new", "code"),
    "back": ("new", "code"),
    "kindof": ("new", "program"),
    "step": ("program", "count", "rule"),
    "letter": ("program", "count", "kind"),
    "drop": ("thing",),
    "claim": ("free label", "claim"),
    "forget": ("label",),
}
OTHER_COMMANDS = {
    "undo": (),
    "redo": (),
    "state": ("label",),
    "states": (),
    "claimed": ("label",),
    "names": (),
    "show": ("thing",),
    "size": ("program",),
    "worth": ("program",),
    "calls": ("program",),
    "firsts": ("program",),
    "ready": ("program",),
    "entries": ("code",),
    "run": ("code",),
    "same": ("thing", "like"),
}
CLAIMS = {
    "alike": ("program", "program"),
    "unlike": ("program", "program"),
    "prints": ("code", "program"),
    "misprints": ("code", "program"),
    "plain": ("program",),
    "steps": ("program",),
    "leaves": ("program", "program", "others"),
    "leavesnot": ("program", "program", "others"),
}


def is_name(value):
    """Whether any value is a name."""
    if not isinstance(value, str) or not 1 <= len(value) <= MOST_SIGNS_OF_NAME:
        return False
    return value[0] in SMALL_LETTERS and all([sign in SMALL_LETTERS + FIGURES for sign in value])


def is_told(part, text):
    """Whether a text is such a part."""
    if part == "text":
        return text != ""
    if part == "count":
        return len(text) <= MOST_FIGURES_OF_COUNT and read_count(text) is not None
    return is_rule(text) if part == "rule" else is_name(text)


def parts_told(parts, texts):
    """The list of the tuples of the parts and their texts; None if they do not go together."""
    if "others" in parts:
        many = len(texts) - len(parts) + 1
        if not 1 <= many <= MOST_OTHERS:
            return None
        parts = parts[:-1] + ("program",) * many
    if len(parts) != len(texts) or not all([is_told(part, text) for part, text in zip(parts, texts)]):
        return None
    return list(zip(parts, texts))


def claim_told(texts):
    """As parts_told, of the label and the claim that is noted under it."""
    if len(texts) < 2 or not is_name(texts[0]) or texts[1] not in CLAIMS:
        return None
    told = parts_told(CLAIMS[texts[1]], texts[2:])
    return None if told is None else [("free label", texts[0]), ("claim", texts[1])] + told


def command_told(value):
    """A tuple of a command's word and the list of the tuples of its parts and their texts; None of any other value."""
    if not isinstance(value, str):
        return None
    word = value.partition(" ")[0]
    if word not in DEEDS and word not in OTHER_COMMANDS:
        return None
    parts = DEEDS[word] if word in DEEDS else OTHER_COMMANDS[word]
    # A text is all that is left, whatever stands in it.
    texts = value.split(" ", len(parts))[1:] if "text" in parts else value.split(" ")[1:]
    told = claim_told(texts) if word == "claim" else parts_told(parts, texts)
    return None if told is None else (word, told)


def is_command(value):
    """Whether any value is a command by its words alone."""
    return command_told(value) is not None


def is_deed(value):
    """Whether any value is a command that is a deed."""
    told = command_told(value)
    return told is not None and told[0] in DEEDS
