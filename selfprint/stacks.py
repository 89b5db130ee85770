"""Worths while they are made, and what is done with the last ones of a stack of them.

Counts, pairs and sums stand there as they are told: a COUNT, ("both", v, w),
("left", v) and ("right", v). What is made of a fun, or of an entry of a code, is
a tuple that begins with "made". A new name is ("new", kind, level), with the
number of binders around its own one; with one call more it is ("call", kind,
function, argument), as a part of it ("first", kind, pair) or ("second", kind,
pair): the kind is always its own, and what is called or parted stands behind.
"""

from selfprint.nodes import MOST_TOLD

MOST_CALLS = 2000


def is_made(function):
    """Whether the worth of a kind of functions is a made one: otherwise it is a new name."""
    return function[0] == "made"


def name_called(function, argument):
    """A new name with one call more."""
    return ("call", function[1][2], function, argument)


def part_of(worth, word):
    """A part of a pair, or of a new name of a pair kind."""
    # The parts of a pair's worth and of its kind stand at the same places.
    place = 1 if word == "first" else 2
    if worth[0] == "both":
        return worth[place]
    return (word, worth[1][place], worth)


def put_both(worths, word):
    """The last two worths become a pair."""
    second = worths.pop()
    first = worths.pop()
    worths.append(("both", first, second))


def put_part(worths, word):
    """The last worth becomes a part of it."""
    worths.append(part_of(worths.pop(), word))


def put_side(worths, word):
    """The last worth is put to a side."""
    worths.append((word, worths.pop()))


def put_next(worths, word):
    """The last worth, a count, becomes the one behind it."""
    worths.append(min(worths.pop() + 1, MOST_TOLD))


# What is done alike for nodes and orders of these names.
PUTTERS = {
    "both": put_both,
    "first": put_part,
    "second": put_part,
    "left": put_side,
    "right": put_side,
    "next": put_next,
}


def is_put(word):
    """Whether the worth of such a node or order is made of the last worths alone, without a call."""
    return word in PUTTERS


def put(worths, word):
    """The last worths are taken from the stack, and what is made of them is put there."""
    action = PUTTERS[word]
    action(worths, word)
