"""Callers that tell two programs from one another by what they ask on the way to where they part.

While they are made, a name is told by the number of binders around its own one,
so that a term can be put anywhere further in as it is.
"""

from selfprint.kinds import COUNT
from selfprint.nodes import binders
from selfprint.rows import kind_in_rows, part_words, row_of
from selfprint.trails import SIDES

NOTHING = ("told", 0)


class Asker:
    """What makes the caller for a trail, with rows of as many counts as it wants."""

    def __init__(self, trail):
        self.trail = trail
        self.many = trail.row_size()
        self.row = row_of(self.many)

    def caller(self, kind):
        """The caller of programs of the kind, put as rows."""
        nodes = [("fun", kind_in_rows(kind, self.row))] + self.ask(0, [("name", 0)], 1)
        return [near_name(node, around) for node, around in zip(nodes, binders(nodes))]

    def ask(self, level, worth, around):
        """What is asked, so many arguments down, of the worth that a term tells."""
        return self.ask_along(self.trail.steps[level], level, worth, around)

    def ask_along(self, steps, level, worth, around):
        """As ask, with these steps left to go ahead of the next argument, or of the end."""
        for place, step in enumerate(steps):
            if step[0] == "fun":
                worth = [("call",)] + worth + self.bound_caller(step[1], around)
            elif step[0] in SIDES:
                further = self.ask_along(steps[place + 1:], level, [("name", around)], around + 1)
                return ask_side(worth, step[0], further, [NOTHING])
            else:
                worth = [step] + worth
        if level == self.trail.depth() and not self.trail.is_of_heads:
            return ask_end(worth, self.trail.ends, around)
        return part_words(self.many, level) + worth

    def bound_caller(self, number, around):
        """The caller that is put for a name bound on the way."""
        return self.tell(number, self.trail.bound[number], (), [], around)

    def tell(self, number, kind, out, arguments, around):
        """What such a caller tells, of this kind, behind parts and calls from it out, at the names in arguments."""
        if kind[0] == "fun":
            inner = self.tell(number, kind[2], out + ("call",), arguments + [("name", around)], around + 1)
            return [("fun", kind_in_rows(kind[1], self.row))] + inner
        if kind[0] == "pair":
            first = self.tell(number, kind[1], out + ("first",), arguments, around)
            return [("both",)] + first + self.tell(number, kind[2], out + ("second",), arguments, around)
        return row_term([self.tell_count((number, out, level), arguments, around) for level in range(self.many)])

    def tell_count(self, head, arguments, around):
        """The count that is told, so many arguments down, where this is the head."""
        told = self.trail.tells.get(head, NOTHING)
        if told[0] == "told":
            return [told]
        return self.ask(head[2] + 1, [arguments[told[1]]], around)


def near_name(node, around):
    """The node; a name told by the binders between it and its own one."""
    return ("name", around - 1 - node[1]) if node[0] == "name" else node


def row_term(counts):
    """The row of counts that these terms tell."""
    made = []
    for count in counts[:-1]:
        made.extend([("both",)] + count)
    return made + counts[-1]


def ask_side(worth, side, told, otherwise):
    """A which that tells the one term on this side, the other one on the other side."""
    arms = told + otherwise if side == "left" else otherwise + told
    return [("which",)] + worth + arms


def ask_end(worth, both_ends, around):
    """What tells 0 of the one, and 1 of the other one, where sides or counts are unlike."""
    one, other = both_ends
    if one[0] in SIDES:
        return ask_side(worth, one[0], [("told", 0)], [("told", 1)])
    return ask_count(worth, one[1], other[1], around)


def least_parting(one, other):
    """The least number that does not divide the difference of two unlike counts."""
    number = 2
    while (one - other) % number == 0:
        number += 1
    return number


def ask_count(worth, one, other, around):
    """What tells 0 of the one count, and 1 of the other one.

    It is the first one of some flags, which are turned as often as the count
    tells; only so many turns as the other count tells, or a multiple of their
    number more or less, bring the flag that is 1 to the first place.
    """
    many = least_parting(one, other)
    flags = [[("told", 1 if place == other % many else 0)] for place in range(many)]
    places = flag_places(many)
    turned = [words + [("name", around)] for words in places[1:] + places[:1]]
    return places[0] + [("turns", flags_kind(many))] + worth + flags_term(turned) + flags_term(flags)


# Flags stand in pairs of halves, so that they are not too deep for a kind however many there are.


def flags_kind(many):
    """The kind of so many flags."""
    half = many // 2
    return COUNT if many == 1 else ("pair", flags_kind(half), flags_kind(many - half))


def flag_places(many):
    """For each of so many flags the nodes, ahead of them all, that take it."""
    if many == 1:
        return [[]]
    half = many // 2
    firsts = [words + [("first",)] for words in flag_places(half)]
    return firsts + [words + [("second",)] for words in flag_places(many - half)]


def flags_term(terms):
    """The flags that these terms tell."""
    if len(terms) == 1:
        return terms[0]
    half = len(terms) // 2
    return [("both",)] + flags_term(terms[:half]) + flags_term(terms[half:])
