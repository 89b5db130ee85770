"""A desk, which keeps things under names and claims under labels, and does commands."""

from selfprint.basics import is_list, renewed
from selfprint.claims import contrary, is_paper_of
from selfprint.commands import DEEDS, SORTED, command_told, is_deed, is_name
from selfprint.deeds import deed_done
from selfprint.errors import CommandFailed, InvalidCommand, InvalidLines, InvalidPaper, LabelTaken, LimitError
from selfprint.errors import MissingError, NameTaken, NothingNamed, NothingToRedo, NothingToUndo, StateError
from selfprint.errors import TermError, TooMany, UnknownLabel
from selfprint.questions import answer_of
from selfprint.shelves import Shelf, changes_text, claim_made, claim_words

MOST_DEEDS = 300


class Kept:
    """All that a desk has; it never changes.

    done has for each deed a tuple of its line and the shelf ahead of it, undone,
    the next one last, of its line and the shelf behind it. papers has for labels
    tuples of the words of the claim as it was, the word of the claim for which the
    paper is kept, and the paper.
    """

    def __init__(self, shelf, done, undone, papers):
        self.shelf = shelf
        self.done = done
        self.undone = undone
        self.papers = papers


class Desk:
    """A desk: what it has is one value, in the place of which another one is put."""

    def __init__(self):
        self._kept = Kept(Shelf({}, {}, {}), [], [], {})

    @property
    def names(self):
        """The sorted list of the names under which things are kept."""
        return sorted(self._kept.shelf.things)

    @property
    def labels(self):
        """The sorted list of the labels under which claims are noted."""
        return sorted(self._kept.shelf.claims)

    def __len__(self):
        """How many deeds can be taken back."""
        return len(self._kept.done)

    def __contains__(self, name):
        """Whether any value is a name of something kept."""
        return is_name(name) and name in self._kept.shelf.things

    def __getitem__(self, name):
        """What is kept under a name, with new lists."""
        if not is_name(name) or name not in self._kept.shelf.things:
            raise NothingNamed(name)
        return renewed(self._kept.shelf.things[name][1])

    # Without this Python would iterate over a desk by __getitem__.
    def __iter__(self):
        raise TypeError("a desk is not iterated over")

    def __call__(self, command):
        """As do."""
        return self.do(command)

    def claim_of(self, label):
        """A label's claim, with what is kept now; None while its state is gone."""
        shelf = self._kept.shelf
        if not is_name(label) or label not in shelf.claims:
            raise UnknownLabel(label)
        if shelf.states[label] == "gone":
            return None
        return claim_made(shelf.things, shelf.claims[label])

    def do(self, command):
        """Does a command, and tells its answer."""
        told = command_told(command)
        if told is None:
            raise InvalidCommand(command)
        word, parts = told
        shelf = self._kept.shelf
        need_parts(shelf, parts)
        if word == "undo":
            return self.undo_last()
        if word == "redo":
            return self.redo_last()
        values = [value_told(shelf, part, text) for part, text in parts]
        if word not in DEEDS:
            return answer_of(shelf, word, values)
        made = deed_done(shelf, word, parts, values)
        if len(self._kept.done) == MOST_DEEDS:
            raise TooMany("deeds", MOST_DEEDS)
        self._kept = Kept(made, self._kept.done + [(command, shelf)], [], self._kept.papers)
        return changes_text(shelf.states, made.states)

    def undo_last(self):
        """Takes the last deed back, and tells its line."""
        kept = self._kept
        if not kept.done:
            raise NothingToUndo()
        line, before = kept.done[-1]
        self._kept = Kept(before, kept.done[:-1], kept.undone + [(line, kept.shelf)], kept.papers)
        return line

    def redo_last(self):
        """Does the deed again that was taken back last, and tells its line."""
        kept = self._kept
        if not kept.undone:
            raise NothingToRedo()
        line, after = kept.undone[-1]
        self._kept = Kept(after, kept.done + [(line, kept.shelf)], kept.undone[:-1], kept.papers)
        return line

    def do_all(self, *commands):
        """Does all commands, or none, and tells the list of their answers."""
        before = self._kept
        answers = []
        for position, command in enumerate(commands):
            try:
                answers.append(self.do(command))
            except (TermError, MissingError, StateError, LimitError) as why:
                self._kept = before
                raise CommandFailed(position) from why
        return answers

    def attempt(self, *commands):
        """As do_all, but all is as before then."""
        before = self._kept
        try:
            return self.do_all(*commands)
        finally:
            self._kept = before

    def attach(self, label, paper):
        """Keeps a paper of the label's claim, or of its contrary."""
        claim = self.claim_of(label)
        if claim is None:
            raise InvalidPaper(paper)
        kept = self._kept
        words = claim_words(kept.shelf.claims[label])
        # No limit stops what they are told of, as the state is not gone; where one stops the paper, it is none.
        for meant in (claim, contrary(claim)):
            if is_paper_of(meant, paper):
                papers = {**kept.papers, label: (words, meant[0], renewed(paper))}
                self._kept = Kept(kept.shelf, kept.done, kept.undone, papers)
                return
        raise InvalidPaper(paper)

    def fits(self, label):
        """Whether the paper that is kept with the label is still one of what it was kept for."""
        claim = self.claim_of(label)
        kept = self._kept
        if claim is None or label not in kept.papers:
            return False
        words, word, paper = kept.papers[label]
        if words != claim_words(kept.shelf.claims[label]):
            return False
        return is_paper_of(claim if word == claim[0] else contrary(claim), paper)

    def lines(self):
        """The list of the lines of the deeds that are not taken back."""
        return [line for line, _ in self._kept.done]

    def copy(self):
        """A desk with all that this one has, which goes on by itself."""
        other = Desk()
        other._kept = self._kept
        return other

    @classmethod
    def again(cls, lines):
        """A desk that has done these deeds."""
        if not is_list(lines):
            raise InvalidLines(None)
        for position, line in enumerate(lines):
            if not is_deed(line):
                raise InvalidLines(position)
        desk = cls()
        desk.do_all(*lines)
        return desk


class Trial:
    """Behind a block with it all of a desk is as it was ahead of the block."""

    def __init__(self, desk):
        self._desk = desk
        self._before = None

    def __enter__(self):
        """The desk, of which it is noted what it has."""
        self._before = self._desk._kept
        return self._desk

    # The desk has again what it had, and an error goes on.
    def __exit__(self, kind, value, trace):
        desk = self._desk
        desk._kept = self._before
        return False


def tried(desk, action):
    """What the function action returns for a desk that is then as it was."""
    with Trial(desk) as held:
        return action(held)


def need_parts(shelf, parts):
    """The errors of names and labels of a command's parts."""
    for part, text in parts:
        if part == "new" and text in shelf.things:
            raise NameTaken(text)
        if part == "free label" and text in shelf.claims:
            raise LabelTaken(text)
        if part == "label" and text not in shelf.claims:
            raise UnknownLabel(text)
        if part in SORTED + ("thing", "like") and not is_kept(shelf, part, text, parts[0][1]):
            raise NothingNamed(text)


def is_kept(shelf, part, name, first):
    """Whether a thing of the wanted sort is kept under a name; first is the command's first name."""
    if name not in shelf.things:
        return False
    sort = shelf.things[name][0]
    if part == "thing":
        return True
    return sort == (shelf.things[first][0] if part == "like" else part)


def value_told(shelf, part, text):
    """The value of a command's part: a thing, with its sort where none is wanted; a COUNT; else the text."""
    if part in SORTED:
        # An error may hold it, and is not to hold what the desk has.
        return renewed(shelf.things[text][1])
    if part in ("thing", "like"):
        return shelf.things[text]
    return int(text) if part == "count" else text
