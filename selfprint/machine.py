"""A machine that runs a program little by little."""

from selfprint.basics import is_count
from selfprint.checked import found_kinds, need_program
from selfprint.errors import InvalidMany, NotDone
from selfprint.kinds import need_data
from selfprint.stacks import MOST_CALLS
from selfprint.termrun import TermRun


class Run:
    """A program that is run little by little."""

    def __init__(self, program):
        need_program(program)
        self._kind = found_kinds([], program)[0]
        self._far = TermRun(program)
        self._has_worth = False

    @property
    def calls(self):
        """How many calls were begun."""
        return len(self._far.begun)

    @property
    def is_done(self):
        """Whether it has come to its worth."""
        return self._has_worth

    def go(self, many):
        """Goes on with at most so many further calls: whether it is done then."""
        if not is_count(many) or many > MOST_CALLS:
            raise InvalidMany(many)
        # If a limit stops the twin, nothing has changed here.
        further = self._far.twin()
        self._has_worth = further.go(many)
        self._far = further
        return self._has_worth

    def value(self):
        """The worth, told, if it is done and of a data kind."""
        if not self._has_worth:
            raise NotDone()
        need_data(self._kind)
        return self._far.worths[0]
