"""Readers: what knows a kind and calls alone, and writes what it reads as a plain long term."""

from selfprint.errors import TooMany
from selfprint.nodes import MOST_NODES
from selfprint.stacks import part_of


def put_node(printed, node):
    """One node more is printed."""
    if len(printed) == MOST_NODES:
        raise TooMany("nodes", MOST_NODES)
    printed.append(node)


def read_worth(run, kind, worth):
    """The list of the nodes that the reader of a shown kind prints of a worth.

    run.called tells what a function tells at an argument. Nodes are printed one
    behind another, so a limit stops it just where it is met.
    """
    printed = []
    waiting = [(kind, worth, 0)]
    while waiting:
        kind_now, worth_now, around = waiting.pop()
        action = READERS[kind_now[0]]
        coming = action(run, printed, kind_now, worth_now, around)
        waiting.extend(coming[::-1])
    return printed


# Each prints the nodes that are plain at once, and returns what is read behind
# them, in its sequence: tuples of a kind, a worth and how many binders stand around.


def read_fun(run, printed, kind, worth, around):
    """It is called at a new name."""
    put_node(printed, ("fun", kind[1]))
    told = run.called(worth, ("new", kind[1], around))
    return [(kind[2], told, around + 1)]


def read_pair(run, printed, kind, worth, around):
    """It is parted."""
    put_node(printed, ("both",))
    return [(kind[1], part_of(worth, "first"), around), (kind[2], part_of(worth, "second"), around)]


def read_sum(run, printed, kind, worth, around):
    """It is asked for its side."""
    side, on_it = worth
    if side == "left":
        put_node(printed, ("left", kind[2]))
        return [(kind[1], on_it, around)]
    put_node(printed, ("right", kind[1]))
    return [(kind[2], on_it, around)]


def read_count(run, printed, kind, worth, around):
    """It is asked for the count."""
    put_node(printed, ("told", worth))
    return []


def read_letter(run, printed, kind, worth, around):
    """It is a new name, with calls and parts around it."""
    arguments = []
    inner = worth
    while inner[0] != "new":
        put_node(printed, (inner[0],))
        if inner[0] == "call":
            function_kind = inner[2][1]
            arguments.append((function_kind[1], inner[3], around))
        inner = inner[2]
    put_node(printed, ("name", around - 1 - inner[2]))
    # The outermost call was met first, and its argument stands last.
    return arguments[::-1]


READERS = {
    "fun": read_fun,
    "pair": read_pair,
    "sum": read_sum,
    "count": read_count,
    "letter": read_letter,
}
