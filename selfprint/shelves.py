"""What is kept under names and labels at one time."""

from selfprint.basics import renewed
from selfprint.claims import is_claim, is_true
from selfprint.errors import TooMany


class Shelf:
    """What is kept; it never changes.

    things has for each name a tuple of a sort and a thing of it, claims for each
    label a tuple of a word and of the names of the claim's things, each as a tuple
    of the sort that the claim wants and the name; states has each label's state.
    """

    def __init__(self, things, claims, states):
        self.things = things
        self.claims = claims
        self.states = states


def claim_made(things, claim):
    """The claim as a tuple, with new lists; None if one of its things is not kept."""
    word, wanted = claim
    values = []
    for sort, name in wanted:
        if name not in things or things[name][0] != sort:
            return None
        values.append(renewed(things[name][1]))
    if len(values) > 2:
        # What is left stands ahead of the arguments in a command, and behind them in a claim.
        return (word, values[0], values[2:], values[1])
    return (word,) + tuple(values)


def state_of(things, claim):
    """The state of a label with this claim."""
    made = claim_made(things, claim)
    if not is_claim(made):
        return "gone"
    try:
        return "true" if is_true(made) else "false"
    except TooMany:
        return "gone"


def is_about(claim, name):
    """Whether the name stands in the claim."""
    return name in [told for _, told in claim[1]]


def with_things(shelf, things, name):
    """The shelf with these things, which are other ones under this name alone."""
    states = {}
    for label in shelf.claims:
        claim = shelf.claims[label]
        states[label] = state_of(things, claim) if is_about(claim, name) else shelf.states[label]
    return Shelf(things, shelf.claims, states)


def claim_words(claim):
    """A claim in the words behind its label."""
    return " ".join([claim[0]] + [name for _, name in claim[1]])


def states_text(states):
    """All labels with their states, sorted."""
    return listed([f"{label} {states[label]}" for label in sorted(states)])


def changes_text(before, after):
    """As states_text, of the labels whose state is another one than it was."""
    return states_text({label: after[label] for label in after if before.get(label) != after[label]})


def listed(texts):
    """A list as answers tell it."""
    return ", ".join(texts) if texts else "-"
