"""What deeds make of what is kept."""

from selfprint.checked import is_program, program_kind
from selfprint.codes import shaken
from selfprint.compiler import compiled
from selfprint.decompiler import decompiled
from selfprint.errors import InvalidClaim, InvalidProgram, TooMany
from selfprint.forms import form
from selfprint.left import behind, called, left_of
from selfprint.printing import printed
from selfprint.reader import read_kind, read_program
from selfprint.shelves import Shelf, claim_made, state_of, with_things
from selfprint.steps import stepped
from selfprint.terms import letters_put

MOST_THINGS = 12
MOST_LABELS = 12

# Each is called with the values of all parts behind the name under which the
# thing is kept, and returns it, a program unless MADE tells another sort.


def make_program(values):
    """A program that is read."""
    return read_program(values[0])


def make_kind(values):
    """A kind that is read."""
    return read_kind(values[0])


def make_form(values):
    """A program's form."""
    return form(values[0])


def make_print(values):
    """A program's printed form."""
    return printed(values[0])


def make_call(values):
    """A program called at others."""
    return called(values[0], values[1:])


def make_left(values):
    """What is left of a program at others."""
    return left_of(values[0], values[1:])


def make_after(values):
    """A program behind another one."""
    return behind(values[0], values[1])


def make_code(values):
    """A program's compiled code."""
    return compiled(values[0])


def make_shaken(values):
    """A code shaken."""
    return shaken(values[0])


def make_back(values):
    """What a code prints."""
    return decompiled(values[0])


def make_kindof(values):
    """A program's kind."""
    return program_kind(values[0])


def make_step(values):
    """What a step makes of the program under the name itself."""
    return stepped(values[0], values[1], values[2])


def make_letter(values):
    """The program under the name itself, with a letter put."""
    made = letters_put(values[0], values[1], values[2])
    if not is_program(made):
        raise InvalidProgram(made)
    return made


MAKERS = {
    "program": make_program,
    "kind": make_kind,
    "form": make_form,
    "print": make_print,
    "call": make_call,
    "left": make_left,
    "after": make_after,
    "code": make_code,
    "shaken": make_shaken,
    "back": make_back,
    "kindof": make_kindof,
    "step": make_step,
    "letter": make_letter,
}
MADE = {"kind": "kind", "kindof": "kind", "code": "code", "shaken": "code"}


def deed_done(shelf, word, told, values):
    """The shelf behind a deed, of which the parts with their texts, and with their values, are told."""
    name = told[0][1]
    if word == "claim":
        return with_claim(shelf, name, (told[1][1], tuple(told[2:])))
    if word == "forget":
        return without_label(shelf, name)
    if word == "drop":
        return with_things(shelf, {other: shelf.things[other] for other in shelf.things if other != name}, name)
    action = MAKERS[word]
    made = action(values[1:] if told[0][0] == "new" else values)
    things = {**shelf.things, name: (MADE.get(word, "program"), made)}
    if len(things) > MOST_THINGS:
        raise TooMany("names", MOST_THINGS)
    return with_things(shelf, things, name)


def with_claim(shelf, label, claim):
    """The shelf with a claim noted under a label; all its things are kept."""
    state = state_of(shelf.things, claim)
    if state == "gone":
        raise InvalidClaim(claim_made(shelf.things, claim))
    claims = {**shelf.claims, label: claim}
    if len(claims) > MOST_LABELS:
        raise TooMany("labels", MOST_LABELS)
    return Shelf(shelf.things, claims, {**shelf.states, label: state})


def without_label(shelf, label):
    """The shelf without what is noted under a label."""
    claims = {other: shelf.claims[other] for other in shelf.claims if other != label}
    return Shelf(shelf.things, claims, {other: shelf.states[other] for other in claims})
