"""Programs compiled as codes."""

from selfprint.checked import found_kinds, need_program
from selfprint.entries import MOST_SLOTS
from selfprint.errors import TooMany
from selfprint.kinds import MOST_DEEP, MOST_SIGNS, depth_of, signs_of
from selfprint.nodes import all_child_places, binds, ends


class Bodies:
    """The bodies of a program, each told by the position of its first node, as its binder is.

    rows has for each node the tuple of the bodies around it that have a binder,
    the nearest one first; given the kind of what each of these binds; firsts
    all bodies in their sequence; slots for each body the list of the binders
    that are its slots.
    """

    def __init__(self, program):
        self.program = list(program)
        self.kinds = found_kinds([], program)
        self.places = all_child_places(self.program)
        self.rows = [()] * len(program)
        self.given = {}
        for position in range(len(program)):
            self.enter(position)
        self.firsts = [0] + sorted(list(self.given))
        behind = ends(self.program)
        self.slots = {first: self.outer_binders(first, behind[first]) for first in self.firsts}

    def enter(self, position):
        """The rows of the node's children, and what it binds in them."""
        node = self.program[position]
        for child, bound in enumerate(binds(node[0])):
            place = self.places[position][child]
            self.rows[place] = self.rows[position]
            if bound == 1:
                self.rows[place] = (place,) + self.rows[position]
                self.given[place] = self.bound_kind(position, child)

    def bound_kind(self, position, child):
        """The kind that the node binds in a child."""
        node = self.program[position]
        if node[0] in ("fun", "turns"):
            return node[1]
        told = self.kinds[position + 1]
        return told if node[0] == "let" else told[child]

    def outer_binders(self, first, end):
        """The binders outside the body for which names stand in it, the nearest first."""
        used = {}
        for position in range(first, end):
            if self.program[position][0] == "name":
                used[self.binder_of(position)] = True
        return [binder for binder in self.rows[first] if binder in used and binder != first]

    def binder_of(self, position):
        """The binder for which the name there stands."""
        return self.rows[position][self.program[position][1]]

    def entry(self, first):
        """The entry of the body that begins there."""
        slots = [self.given[binder] for binder in self.slots[first]]
        given = [self.given[first]] if first in self.given else []
        return (slots, given, self.kinds[first], self.orders(first))

    def orders(self, first):
        """The list of the orders of the body that begins there."""
        found = []
        waiting = [first]
        while waiting:
            thing = waiting.pop()
            if isinstance(thing, tuple):
                found.append(thing)
            else:
                waiting.extend(self.plan(thing, first)[::-1])
        return found

    def plan(self, position, first):
        """What is done for a node: orders, and positions of children whose own are done there."""
        node = self.program[position]
        places = self.places[position]
        if node[0] == "name":
            return [self.source(self.binder_of(position), first)]
        if node[0] == "fun":
            return [self.make(places[0], first)]
        if node[0] == "which":
            return [places[0], self.make(places[1], first), self.make(places[2], first), ("which",)]
        if node[0] == "turns":
            return [places[0], places[2], self.make(places[1], first), ("turns",)]
        if node[0] == "let":
            return [self.make(places[1], first), places[0], ("call",)]
        # The other nodes are told as their orders are.
        return places + [node]

    def source(self, binder, first):
        """The order by which a binder stands in the body."""
        if binder == first:
            return ("given",)
        return ("slot", self.slots[first].index(binder))

    def make(self, body, first):
        """The order that makes one of the entry of another body."""
        sources = [self.source(binder, first) for binder in self.slots[body]]
        return ("make", self.firsts.index(body), sources)


def compiled(program):
    """The compiled code of a program."""
    need_program(program)
    bodies = Bodies(program)
    need_small(bodies)
    return [bodies.entry(first) for first in bodies.firsts]


def need_small(bodies):
    """TooMany if an entry has too many slots, or a made one's kind is too great."""
    if max([len(slots) for slots in list(bodies.slots.values())]) > MOST_SLOTS:
        raise TooMany("slots", MOST_SLOTS)
    made = [("fun", bodies.given[first], bodies.kinds[first]) for first in bodies.firsts[1:]]
    if max([signs_of(kind) for kind in made], default=0) > MOST_SIGNS:
        raise TooMany("signs", MOST_SIGNS)
    if max([depth_of(kind) for kind in made], default=0) > MOST_DEEP:
        raise TooMany("depth", MOST_DEEP)
