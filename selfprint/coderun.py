"""Codes on their way to their worths, without a function that calls itself."""

from selfprint.errors import TooMany
from selfprint.stacks import MOST_CALLS, is_made, is_put, name_called, put


class CodeRun:
    """A code that is run.

    A task is a tuple (entry, held, place), or (None, function, number); the next
    one stands last. The first goes on with an entry's orders at the place; held
    is a tuple of the worths in its slots, and of the one that is given, if there
    is one. The second has so many turns of a function left to do. worths is the
    stack of what is made so far, begun the number of calls.
    """

    def __init__(self, code):
        self.code = code
        self.tasks = [(0, ((), None), 0)]
        self.worths = []
        self.begun = 0

    def worth(self):
        """Goes on as far as it can, and takes the worth from the stack."""
        while self.tasks:
            entry, what, number = self.tasks.pop()
            if entry is None:
                do_turn(self, what, number)
            else:
                do_orders(self, entry, what, number)
        return self.worths.pop()

    def called(self, function, argument):
        """What a function tells, called at an argument."""
        begin(self, function, argument)
        return self.worth()

    def count_call(self):
        """One call more is begun."""
        if self.begun == MOST_CALLS:
            raise TooMany("calls", MOST_CALLS)
        self.begun += 1


def begin(run, function, argument):
    """The entry of a made one is begun; a new name has one call more."""
    if is_made(function):
        run.count_call()
        run.tasks.append((function[1], (function[2], argument), 0))
    else:
        run.worths.append(name_called(function, argument))


def do_orders(run, entry, held, place):
    """The next order of an entry is done."""
    orders = run.code[entry][3]
    if place + 1 < len(orders):
        run.tasks.append((entry, held, place + 1))
    order = orders[place]
    if is_put(order[0]):
        put(run.worths, order[0])
    else:
        action = ACTIONS[order[0]]
        action(run, order, held)


def do_turn(run, function, number):
    """One turn more is done, if one is left."""
    if number == 0:
        return
    run.tasks.append((None, function, number - 1))
    # The turn of a new name begins no entry, but is a call all the same.
    if not is_made(function):
        run.count_call()
    begin(run, function, run.worths.pop())


def source_worth(order, held):
    """The worth in a slot, or the given one."""
    slots, given = held
    return slots[order[1]] if order[0] == "slot" else given


def do_source(run, order, held):
    """A worth that the entry holds is told."""
    run.worths.append(source_worth(order, held))


def do_told(run, order, held):
    """A count is told."""
    run.worths.append(order[1])


def do_make(run, order, held):
    """A made one is told."""
    run.worths.append(("made", order[1], tuple([source_worth(source, held) for source in order[2]])))


def do_call(run, order, held):
    """The function and its argument are there."""
    argument = run.worths.pop()
    begin(run, run.worths.pop(), argument)


def do_which(run, order, held):
    """The sum and both functions are there."""
    right = run.worths.pop()
    left = run.worths.pop()
    side, on_it = run.worths.pop()
    begin(run, left if side == "left" else right, on_it)


def do_turns(run, order, held):
    """How many, the start and the function are there."""
    function = run.worths.pop()
    start = run.worths.pop()
    run.tasks.append((None, function, run.worths.pop()))
    run.worths.append(start)


ACTIONS = {
    "slot": do_source,
    "given": do_source,
    "told": do_told,
    "make": do_make,
    "call": do_call,
    "which": do_which,
    "turns": do_turns,
}
