"""The way to the first parting of two plain long forms, with all that a caller has to know of it."""

from selfprint.nodes import ends
from selfprint.ways import words_out

SIDES = ("left", "right")


class Trail:
    """A way that is gone in both terms at once, which are the same up to its end.

    steps has, for each number of arguments down, the list of the steps there but
    the one into an argument, a fun's with the number of the name that it binds;
    bound has the kinds of these names. A key of tells is a tuple of such a number,
    the parts and calls from the name out, and a number of arguments down: as such
    a head there, the name is to tell a count, the node ("told", n), or what is
    asked of the argument of the step ("argument", i). ends has both nodes at the end.
    """

    def __init__(self, one, other, way):
        self.steps = [[]]
        self.bound = []
        self.tells = {}
        place = 0
        for step in way:
            place = self.follow(one, place, step)
        self.ends = (one[place], other[place])
        self.is_of_heads = one[place][0] not in SIDES + ("told",)
        if self.is_of_heads:
            self.tells[self.head(one, place)] = ("told", 0)
            self.tells[self.head(other, place)] = ("told", 1)

    def depth(self):
        """How many arguments down the way's end is."""
        return len(self.steps) - 1

    def row_size(self):
        """How many counts are asked for, one at least."""
        return self.depth() + 1 if self.is_of_heads else max(self.depth(), 1)

    def follow(self, term, place, step):
        """The place to which the step leads."""
        word = step[0]
        if word == "argument":
            self.tells[self.head(term, place)] = step
            self.steps.append([])
            return argument_place(term, place, step[1])
        if word == "fun":
            self.steps[-1].append(("fun", len(self.bound)))
            self.bound.append(term[place][1])
        else:
            self.steps[-1].append(step)
        # A both alone has a second child, behind all of the first one.
        return ends(term)[place + 1] if word == "second" else place + 1

    def head(self, term, place):
        """The key of what stands at a letter's place."""
        words = words_out(term, place)
        name = term[place + len(words)]
        return (len(self.bound) - 1 - name[1], tuple(words[::-1]), self.depth())


def argument_place(term, place, number):
    """Where an argument of what stands at a letter's place begins, counted from the head."""
    behind = ends(term)
    # Behind the head stand the arguments, the nearest first.
    found = place + len(words_out(term, place)) + 1
    for _ in range(number):
        found = behind[found]
    return found
