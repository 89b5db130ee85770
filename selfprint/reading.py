"""A text on its way to a kind or a term.

Goals are met one behind another, each by a look at the next piece alone. So the
first piece that meets no goal is the first one with which no right text can
begin so; and no function calls itself, however deep a text goes.
"""

from selfprint.errors import BadText, TooMany, UnknownName
from selfprint.kinds import COUNT, MOST_DEEP, MOST_SIGNS
from selfprint.nodes import MOST_NODES, MOST_OUT, MOST_TOLD, WITH_KIND, binds, furthest_name
from selfprint.signs import KIND_LETTERS, is_name, is_number, scanned

MOST_BRACKETS = 40

# A goal that is a mark, or the word in, is met by this piece. A goal that is the
# word of a node with children makes it of the last terms. The others stand here
# and in ACTIONS.

# Goals in whose place others come, whatever the next piece is.
ALWAYS = {
    "kind": ("arrows", "measure"),
    "arrows": ("pluses", "more >"),
    "pluses": ("times", "more +"),
    "times": ("basic", "more *"),
    "body": ("bind", "term", "unbind"),
    "arm": ("(", "binder", ".", "body", ")"),
    "step": ("(", "binder", ":", "kind", ".", "body", ")"),
}

# Goals in whose place others come behind a certain piece, and else none.
IF_NEXT = {
    "more >": (">", ("arrows", "join fun")),
    "more +": ("+", ("times", "join sum", "more +")),
    "more *": ("*", ("basic", "join pair", "more *")),
}
JOINED = {"join fun": "fun", "join sum": "sum", "join pair": "pair"}

# What comes behind the word that begins a term, or an item.
LOOSE = {
    "fun": ("binder", ":", "kind", ".", "body", "fun"),
    "let": ("binder", "=", "term", "in", "body", "let"),
    "which": ("atom", "arm", "arm", "which"),
    "turns": ("atom", "step", "atom", "turns"),
}
ITEMS = {
    "first": ("atom", "first"),
    "second": ("atom", "second"),
    "next": ("atom", "next"),
    "left": ("[", "kind", "]", "atom", "left"),
    "right": ("[", "kind", "]", "atom", "right"),
}
MADE = ("fun", "let", "which", "turns", "first", "second", "next", "left", "right", "call", "both")


class Reading:
    """What is read of a text so far.

    made_kinds has tuples of a kind, its signs and its depth, as it may be too
    great; made_terms has tuples of the spot where a term begins, with brackets
    around it, of its nodes and of the spots of these.
    """

    def __init__(self, text, outside):
        found, stop = scanned(text)
        # The empty piece stands for the text's end, or for a sign that begins none.
        self.coming = found + [(stop, "")]
        self.is_whole = stop == len(text)
        self.place = 0
        self.goals = []
        self.outside = list(outside)
        self.binders = []
        self.unbound = []
        self.made_kinds = []
        self.made_terms = []
        self.unknown = None
        self.brackets = 0
        self.most_brackets = 0
        self.most_signs = 0
        self.most_deep = 0
        self.most_told = 0

    def next_spot(self):
        """Where the next piece begins."""
        return self.coming[self.place][0]

    def next_piece(self):
        """The next piece."""
        return self.coming[self.place][1]

    def take(self):
        """The next piece is gone."""
        if self.next_piece() in ("(", "["):
            self.brackets += 1
            self.most_brackets = max(self.brackets, self.most_brackets)
        if self.next_piece() in (")", "]"):
            self.brackets -= 1
        self.place += 1

    def plan(self, goals, spot):
        """These goals come next, in their sequence, told with a spot."""
        self.goals.extend([(goal, spot) for goal in goals[::-1]])


def meet_piece(reading, goal):
    """A certain piece comes."""
    if reading.next_piece() != goal:
        raise BadText(reading.next_spot())
    reading.take()


def meet_end(reading, spot):
    """The text's end comes."""
    if reading.next_piece() != "" or not reading.is_whole:
        raise BadText(reading.next_spot())


def meet_basic(reading, spot):
    """A letter comes, or count, or a kind in brackets."""
    piece = reading.next_piece()
    if piece == "(":
        reading.plan(("arrows", ")"), spot)
    elif piece == "count":
        reading.made_kinds.append((COUNT, 1, 1))
    elif len(piece) == 1 and piece in KIND_LETTERS:
        reading.made_kinds.append((("letter", KIND_LETTERS.index(piece)), 1, 1))
    else:
        raise BadText(reading.next_spot())
    reading.take()


def meet_join(reading, goal):
    """One kind is made of the last two."""
    right, right_signs, right_deep = reading.made_kinds.pop()
    left, left_signs, left_deep = reading.made_kinds.pop()
    signs = left_signs + right_signs + 1
    reading.made_kinds.append(((JOINED[goal], left, right), signs, max(left_deep, right_deep) + 1))


def meet_measure(reading, spot):
    """The last kind is whole."""
    _, signs, deep = reading.made_kinds[-1]
    reading.most_signs = max(reading.most_signs, signs)
    reading.most_deep = max(reading.most_deep, deep)


def meet_term(reading, spot):
    """A term comes."""
    word = reading.next_piece()
    if word in LOOSE:
        reading.plan(LOOSE[word], reading.next_spot())
        reading.take()
    else:
        reading.plan(("item", "arguments"), spot)


def meet_item(reading, spot):
    """An item comes."""
    word = reading.next_piece()
    if word in ITEMS:
        reading.plan(ITEMS[word], reading.next_spot())
        reading.take()
    else:
        reading.plan(("atom",), spot)


def meet_arguments(reading, spot):
    """As many atoms come as there are."""
    piece = reading.next_piece()
    if piece == "(" or is_number(piece) or is_name(piece):
        reading.plan(("atom", "call", "arguments"), spot)


def meet_atom(reading, spot):
    """An atom comes."""
    piece = reading.next_piece()
    if piece == "(":
        reading.plan(("term", "close"), reading.next_spot())
    elif is_number(piece):
        make_leaf(reading, ("told", count_told(reading, piece)))
    elif is_name(piece):
        make_leaf(reading, ("name", place_of_name(reading, piece)))
    else:
        raise BadText(reading.next_spot())
    reading.take()


def meet_close(reading, spot):
    """What begins with a bracket at the spot is closed, or goes on as a pair."""
    if reading.next_piece() == ",":
        reading.plan(("term", ")", "both"), spot)
        reading.take()
        return
    meet_piece(reading, ")")
    _, nodes, spots = reading.made_terms.pop()
    reading.made_terms.append((spot, nodes, spots))


def meet_binder(reading, spot):
    """The name of a binder comes, which is not bound yet."""
    if not is_name(reading.next_piece()):
        raise BadText(reading.next_spot())
    reading.unbound.append(reading.next_piece())
    reading.take()


def meet_bind(reading, spot):
    """From here on the last name stands for its binder."""
    reading.binders.append(reading.unbound.pop())


def meet_unbind(reading, spot):
    """From here on the last binder is not around any more."""
    reading.binders.pop()


def count_told(reading, piece):
    """The count that is told; what is too great for one is noted alone."""
    figures = piece.lstrip("0")
    # Python does not read numbers of thousands of figures.
    told = MOST_TOLD + 1 if len(figures) > len(str(MOST_TOLD)) else int("0" + figures)
    reading.most_told = max(reading.most_told, told)
    return told


def place_of_name(reading, name):
    """How far out what the name stands for is; the first name that stands for nothing is noted."""
    around = len(reading.binders)
    for place in range(around):
        if reading.binders[around - 1 - place] == name:
            return place
    if name in reading.outside:
        return around + reading.outside.index(name)
    if reading.unknown is None:
        reading.unknown = reading.next_spot()
    return 0


def make_leaf(reading, node):
    """A term of one node."""
    reading.made_terms.append((reading.next_spot(), [node], [reading.next_spot()]))


def make_node(reading, word, spot):
    """A node with children, of the last terms; a call begins where what it calls begins."""
    many = len(binds(word))
    children = reading.made_terms[-many:]
    begin = children[0][0] if word == "call" else spot
    nodes = [(word, reading.made_kinds.pop()[0]) if word in WITH_KIND else (word,)]
    spots = [begin]
    for _, inner_nodes, inner_spots in children:
        nodes.extend(inner_nodes)
        spots.extend(inner_spots)
    del reading.made_terms[-many:]
    reading.made_terms.append((begin, nodes, spots))


ACTIONS = {
    "end": meet_end,
    "basic": meet_basic,
    "measure": meet_measure,
    "term": meet_term,
    "item": meet_item,
    "arguments": meet_arguments,
    "atom": meet_atom,
    "close": meet_close,
    "binder": meet_binder,
    "bind": meet_bind,
    "unbind": meet_unbind,
}


def meet(reading, goal, spot):
    """One goal is met, or others take its place."""
    if goal in ALWAYS:
        reading.plan(ALWAYS[goal], spot)
    elif goal in IF_NEXT:
        piece, goals = IF_NEXT[goal]
        if reading.next_piece() == piece:
            reading.take()
            reading.plan(goals, spot)
    elif goal in JOINED:
        meet_join(reading, goal)
    elif goal in MADE:
        make_node(reading, goal, spot)
    elif goal in ACTIONS:
        action = ACTIONS[goal]
        action(reading, spot)
    else:
        meet_piece(reading, goal)


def read_whole(reading, goal):
    """All of the text is read as this goal: BadText, then UnknownName."""
    reading.plan((goal, "end"), 0)
    while reading.goals:
        coming, spot = reading.goals.pop()
        meet(reading, coming, spot)
    if reading.unknown is not None:
        raise UnknownName(reading.unknown)


def need_small(reading):
    """TooMany for brackets and kinds that are too great."""
    if reading.most_brackets > MOST_BRACKETS:
        raise TooMany("brackets", MOST_BRACKETS)
    if reading.most_signs > MOST_SIGNS:
        raise TooMany("signs", MOST_SIGNS)
    if reading.most_deep > MOST_DEEP:
        raise TooMany("depth", MOST_DEEP)


def kind_read(text):
    """The kind that a text is."""
    reading = Reading(text, [])
    read_whole(reading, "kind")
    need_small(reading)
    return reading.made_kinds[0][0]


def term_read(text, outside):
    """The list of the nodes of the term that a text is, and the list of their spots."""
    reading = Reading(text, outside)
    read_whole(reading, "term")
    need_small(reading)
    _, nodes, spots = reading.made_terms[0]
    if reading.most_told > MOST_TOLD:
        raise TooMany("told", MOST_TOLD)
    if len(nodes) > MOST_NODES:
        raise TooMany("nodes", MOST_NODES)
    if furthest_name(nodes) > MOST_OUT:
        raise TooMany("names", MOST_OUT)
    return nodes, spots
