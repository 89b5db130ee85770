"""The answers to commands that are no deeds, and change nothing."""

from selfprint.orders import run_code
from selfprint.printer import write_kind, written
from selfprint.running import call_count, value_of
from selfprint.shelves import claim_words, listed, states_text
from selfprint.steps import first_steps

# Each is called with what is kept, and with the list of the values of all parts:
# of "show" and "same" these are tuples of a sort and a thing, of labels their texts.


def tell_state(shelf, values):
    """A label's state."""
    return shelf.states[values[0]]


def tell_states(shelf, values):
    """All states."""
    return states_text(shelf.states)


def tell_claimed(shelf, values):
    """A label's claim."""
    return claim_words(shelf.claims[values[0]])


def tell_names(shelf, values):
    """All names."""
    return " ".join(sorted(shelf.things)) if shelf.things else "-"


def tell_show(shelf, values):
    """A thing as it is written."""
    sort, thing = values[0]
    if sort == "program":
        return written(thing)
    return write_kind(thing if sort == "kind" else thing[0][2])


def tell_size(shelf, values):
    """How many nodes, or entries, there are."""
    return str(len(values[0]))


def tell_worth(shelf, values):
    """A program's worth."""
    return worth_text(value_of(values[0]))


def tell_calls(shelf, values):
    """How many calls a program makes."""
    return str(call_count(values[0]))


def tell_firsts(shelf, values):
    """A program's first steps."""
    return listed([f"{position} {rule}" for position, rule in first_steps(values[0])])


def tell_ready(shelf, values):
    """Whether a program is plain."""
    return yes_or_no(first_steps(values[0]) == [])


def tell_run(shelf, values):
    """A code's worth."""
    return worth_text(run_code(values[0]))


def tell_same(shelf, values):
    """Whether two things of one sort are equal."""
    return yes_or_no(values[0] == values[1])


ANSWERS = {
    "state": tell_state,
    "states": tell_states,
    "claimed": tell_claimed,
    "names": tell_names,
    "show": tell_show,
    "size": tell_size,
    "worth": tell_worth,
    "calls": tell_calls,
    "firsts": tell_firsts,
    "ready": tell_ready,
    "entries": tell_size,
    "run": tell_run,
    "same": tell_same,
}


def answer_of(shelf, word, values):
    """The answer to a command that is no deed, undo and redo left out."""
    action = ANSWERS[word]
    return action(shelf, values)


def yes_or_no(holds):
    """The answer that tells whether something is so."""
    return "yes" if holds else "no"


def worth_text(worth):
    """A told worth as answers tell it."""
    if not isinstance(worth, tuple):
        return str(worth)
    if worth[0] == "both":
        return f"({worth_text(worth[1])}, {worth_text(worth[2])})"
    return f"{worth[0]} {worth_text(worth[1])}"
