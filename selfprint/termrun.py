"""Programs on their way to their worths, in rows of worths, without a function that calls itself."""

from selfprint.errors import TooMany
from selfprint.nodes import all_child_places
from selfprint.stacks import MOST_CALLS, is_made, is_put, name_called, put

# For each word which children are run ahead of what the node itself does.
AHEAD = {
    "call": (0, 1),
    "both": (0, 1),
    "first": (0,),
    "second": (0,),
    "left": (0,),
    "right": (0,),
    "which": (0,),
    "next": (0,),
    "turns": (0, 2),
    "let": (0,),
}


class TermRun:
    """A program that is run.

    A task is a tuple (word, position, row, number); the next one stands last.
    The task "begin" is a call, and each call is such a task: so it is plain
    ahead of a call that it comes. worths is the stack of what is made so far,
    begun the list of the positions of all calls.
    """

    def __init__(self, program):
        self.term = list(program)
        self.places = all_child_places(self.term)
        self.tasks = [("run", 0, (), 0)]
        self.worths = []
        self.begun = []

    def twin(self):
        """Another one that has come as far, and goes on by itself."""
        other = TermRun(self.term)
        other.tasks = list(self.tasks)
        other.worths = list(self.worths)
        other.begun = list(self.begun)
        return other

    def go(self, many):
        """Goes on with at most so many calls, ahead of the next one: whether nothing is left to do."""
        last = len(self.begun) + many
        while self.tasks:
            if self.tasks[-1][0] == "begin":
                if len(self.begun) == last:
                    return False
                if len(self.begun) == MOST_CALLS:
                    raise TooMany("calls", MOST_CALLS)
            word, position, row, number = self.tasks.pop()
            do_task(self, word, position, row, number)
        return True

    def worth(self):
        """Goes on as far as it can, and takes the worth from the stack."""
        self.go(MOST_CALLS + 1)
        return self.worths.pop()

    def called(self, function, argument):
        """What a function tells, called at an argument."""
        apply(self, function, argument)
        return self.worth()


def do_task(run, word, position, row, number):
    """One task is done."""
    if is_put(word):
        put(run.worths, word)
    else:
        action = TASKS[word]
        action(run, position, row, number)


def apply(run, function, argument):
    """A made one is to be begun; a new name has one call more."""
    if is_made(function):
        run.tasks.append(("begin", function[1], (argument,) + function[2], 0))
    else:
        run.worths.append(name_called(function, argument))


def do_run(run, position, row, number):
    """A node is to be run in the row."""
    node = run.term[position]
    if node[0] == "name":
        run.worths.append(row[node[1]])
    elif node[0] == "told":
        run.worths.append(node[1])
    elif node[0] == "fun":
        run.worths.append(("made", position, row))
    else:
        run.tasks.append((node[0], position, row, 0))
        places = run.places[position]
        run.tasks.extend([("run", places[child], row, 0) for child in AHEAD[node[0]][::-1]])


def do_begin(run, position, row, number):
    """A call: the child of this number is to be run, what it binds being put ahead of the row."""
    run.begun.append(position)
    run.tasks.append(("run", run.places[position][number], row, 0))


def do_call(run, position, row, number):
    """The function and its argument are there."""
    argument = run.worths.pop()
    function = run.worths.pop()
    apply(run, function, argument)


def do_which(run, position, row, number):
    """The sum is there."""
    side, on_it = run.worths.pop()
    run.tasks.append(("begin", position, (on_it,) + row, 1 if side == "left" else 2))


def do_turns(run, position, row, number):
    """How many, and the start, are there."""
    start = run.worths.pop()
    many = run.worths.pop()
    run.worths.append(start)
    run.tasks.append(("turn", position, row, many))


def do_turn(run, position, row, number):
    """The worth so far is there, and so many turns are left."""
    if number > 0:
        run.tasks.append(("turn", position, row, number - 1))
        run.tasks.append(("begin", position, (run.worths.pop(),) + row, 1))


def do_let(run, position, row, number):
    """What is let is there."""
    run.tasks.append(("begin", position, (run.worths.pop(),) + row, 1))


TASKS = {
    "run": do_run,
    "begin": do_begin,
    "call": do_call,
    "which": do_which,
    "turns": do_turns,
    "turn": do_turn,
    "let": do_let,
}
