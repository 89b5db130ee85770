"""What the tests share: checks of calls, odd values, and made-up kinds, terms and programs."""

import copy
import re
import unittest

from selfprint.desk import Desk
from selfprint.errors import NothingToRedo
from selfprint.nodes import BINDS
from selfprint.reader import read_kind, read_program

A, B, C = ("letter", 0), ("letter", 1), ("letter", 2)
COUNT = ("count",)


def fun(left, right):
    return ("fun", left, right)


def pair(left, right):
    return ("pair", left, right)


def sum_of(left, right):
    return ("sum", left, right)


def wide(signs):
    """A kind of so many signs (an odd number), as flat as it can be."""
    if signs == 1:
        return A
    inner = (signs - 1) // 2
    left = inner if inner % 2 else inner + 1
    return pair(wide(left), wide(signs - 1 - left))


def deep(many):
    """A kind so many deep."""
    kind = A
    for _ in range(many - 1):
        kind = fun(A, kind)
    return kind


def counts_kind(kind):
    """The kind with count in the place of all letters."""
    return COUNT if kind[0] == "letter" else (kind[0], counts_kind(kind[1]), counts_kind(kind[2]))


def too_wide_by_right(signs):
    """A row of pairs, of so many signs, deep as well."""
    kind = A
    while signs > 1:
        kind, signs = pair(A, kind), signs - 2
    return kind


def nexts(nodes, end=("told", 0)):
    """A term of so many nodes."""
    return [("next",)] * (nodes - 1) + [end]


# Values that are no kind, term, program, text, list of names or rule.
ODD = [
    None, True, False, 0, 1, -1, 7, 10 ** 30, "", "x", "count", "letter", b"", b"count", (), [], {}, set(),
    frozenset(), {"a": 1}, [None], (None,), [()], ((),), [[]], ([],), [0], (0,), ["count"], ["told", 1],
    [("told",)], [("told", 1, 1)], [("told", True)], [("told", "1")], [("told", None)], [("told", -1)],
    [("told", [])], [["told", 1]], [("name", True)], [("name", -1)], [("name", 300)], [("told", 1000001)],
    [("fun",), ("told", 1)], [("fun", A)], [("fun", ["count"]), ("told", 1)], [("fun", None), ("told", 1)],
    [("next", 1), ("told", 1)], [("next",)], [("told", 1), ("told", 1)], [("call",), ("told", 1)],
    [(["told"], 1)], [({}, 1)], [([],)], [({},)], [(1, 1)], [((), 1)], [("Told", 1)], [(b"told", 1)], [("left", "a"), ("told", 1)],
    ("letter",), ("letter", 6), ("letter", -1), ("letter", True), ("letter", False), ("letter", "a"),
    ("letter", None), ("letter", 0, 0), ["letter", 0], ("count", 1), ("counts",), (COUNT,), ("pair", A),
    ("pair", A, A, A), ("sum", A), ("fun", A), ("fun", A, None), ("fun", A, ["letter", 0]), ("fun", [], []),
    ("fun", A, ("letter", True)), (["fun"], A, A), ({}, A, A), (b"fun", A, A), object(), len, int,
]


def same(value, other):
    """Whether both are equal and of the same kinds, also within."""
    if type(value) is not type(other):
        return False
    if isinstance(value, (list, tuple)):
        return len(value) == len(other) and all(same(one, two) for one, two in zip(value, other))
    return value == other


def inner_lists(value):
    """All lists in a value, itself counted in."""
    if not isinstance(value, (list, tuple)):
        return []
    found = [value] if isinstance(value, list) else []
    for inner in value:
        found.extend(inner_lists(inner))
    return found


class Checks(unittest.TestCase):
    """Checks of calls, by position and by name at once."""

    def each_call(self, function, told):
        yield lambda: function(*told.values())
        yield lambda: function(**told)

    def check(self, wanted, function, **told):
        """The call returns just this, each time, anew, and leaves what it is passed as it was."""
        before = {name: copy.deepcopy(value) for name, value in told.items() if inner_lists(value)}
        for call in self.each_call(function, told):
            found = call()
            self.assertTrue(same(found, wanted), f"{function.__name__}{told}: {found!r}, wanted {wanted!r}")
            for name, value in before.items():
                self.assertTrue(same(told[name], value), "an argument was changed")
            passed = [id(row) for value in told.values() for row in inner_lists(value)]
            self.assertFalse([row for row in inner_lists(found) if id(row) in passed], "a list is not new")
            for row in inner_lists(found):
                row.append("changed")
        self.assertTrue(same(function(**told), wanted), "a returned list was not new")

    def check_error(self, wanted, attributes, function, **told):
        """The call raises just this error, with just these attributes."""
        before = {name: copy.deepcopy(value) for name, value in told.items() if inner_lists(value)}
        for call in self.each_call(function, told):
            with self.assertRaises(wanted, msg=f"{function.__name__}{told}") as caught:
                call()
            self.assertIs(type(caught.exception), wanted)
            self.assertEqual(set(vars(caught.exception)), set(attributes))
            for name, value in attributes.items():
                found = getattr(caught.exception, name)
                self.assertTrue(same(found, value), f"{function.__name__}{told}: {name} is {found!r}, wanted {value!r}")
        for name, value in before.items():
            self.assertTrue(same(told[name], value), "an argument was changed")

    def check_invalid(self, wanted, function, name, values, **told):
        """Each of the values in the place of this argument raises the error with the value."""
        for value in values:
            self.check_error(wanted, {"value": value}, function, **{**told, name: value})


# Terms as trees, and what the document says of them, told once more in the plainest way.


def tree_of(term):
    """The tree (node, children) of a term."""
    tree, rest = cut_tree(list(term))
    assert rest == []
    return tree


def cut_tree(nodes):
    node, rest = nodes[0], nodes[1:]
    inner = []
    for _ in BINDS[node[0]]:
        child, rest = cut_tree(rest)
        inner.append(child)
    return (node, inner), rest


def term_of(tree):
    """The term of a tree."""
    node, inner = tree
    nodes = [node]
    for child in inner:
        nodes.extend(term_of(child))
    return nodes


def tree_with_names(tree, around, change):
    """The tree with each open name in the place of which change(number, around) puts a tree."""
    node, inner = tree
    if node[0] == "name" and node[1] >= around:
        return change(node[1] - around, around)
    more = BINDS[node[0]]
    return node, [tree_with_names(child, around + bound, change) for child, bound in zip(inner, more)]


def plainly_lifted(term, many):
    return term_of(tree_with_names(tree_of(term), 0, lambda number, around: (("name", number + around + many), [])))


def plainly_put_in(term, other):
    def change(number, around):
        if number == 0:
            return tree_of(plainly_lifted(other, around))
        return ("name", number - 1 + around), []

    return term_of(tree_with_names(tree_of(term), 0, change))


def random_kind(rng, most):
    """A kind at most so many deep."""
    word = rng.choice(("letter", "letter", "count", "pair", "sum", "fun", "fun")) if most > 1 else "letter"
    if word == "letter":
        return ("letter", rng.randrange(3))
    if word == "count":
        return COUNT
    return (word, random_kind(rng, most - 1), random_kind(rng, most - 1))


def random_term(rng, most, names=3):
    """A term, whether it fits or not, at most so many deep, with names up to so many further out than binders."""
    return random_part(rng, most, names)


def random_part(rng, most, names):
    words = list(BINDS) if most > 1 else ["name", "told"]
    word = rng.choice(words)
    if word == "name":
        return [("name", rng.randrange(names))]
    if word == "told":
        return [("told", rng.choice((0, 1, 7, 1000000)))]
    with_kind = word in ("fun", "left", "right", "turns")
    term = [(word, random_kind(rng, 3)) if with_kind else (word,)]
    for bound in BINDS[word]:
        term.extend(random_part(rng, most - 1, names + bound))
    return term


# In this row each kind of letters 0 to 2 has a term, however small.
ROW = [A, fun(A, B), fun(pair(A, B), C), pair(fun(A, A), B), fun(fun(A, B), A)]


def random_fitting(rng, kind, row, most):
    """A term of the kind, with names of the kinds in the row, which begins anywhere and ends with ROW."""
    if most > 0 and rng.randrange(3):
        return random_detour(rng, kind, row, most - 1)
    if kind[0] == "letter" or (kind in row and rng.randrange(2)):
        return random_letter(rng, kind, row)
    if kind[0] == "count":
        return [("told", rng.choice((0, 1, 2, 3, 999999, 1000000)))]
    if kind[0] == "fun":
        return [("fun", kind[1])] + random_fitting(rng, kind[2], [kind[1]] + row, most - 1)
    if kind[0] == "pair":
        return [("both",)] + random_fitting(rng, kind[1], row, most - 1) + random_fitting(rng, kind[2], row, most - 1)
    if rng.randrange(2):
        return [("left", kind[2])] + random_fitting(rng, kind[1], row, most - 1)
    return [("right", kind[1])] + random_fitting(rng, kind[2], row, most - 1)


def random_letter(rng, kind, row):
    """A name of the kind, or a small term of the letter, by what ROW has."""
    places = [place for place, known in enumerate(row) if known == kind]
    if places:
        return [("name", rng.choice(places))]
    first = len(row) - len(ROW)
    to_b = [("call",), ("name", first + 1), ("name", first)]
    if kind == B:
        return to_b
    return [("call",), ("name", first + 2), ("both",), ("name", first)] + to_b


def random_detour(rng, kind, row, most):
    """A term of the kind that is no fun, both, left, right and told."""
    word = rng.choice(["call", "first", "second", "which", "turns", "let"] + ["next"] * (4 if kind == COUNT else 0))
    other, third = random_kind(rng, 2), random_kind(rng, 2)
    if word == "next":
        return [("next",)] + random_fitting(rng, kind, row, most)
    if word == "call":
        return [("call",)] + random_fitting(rng, fun(other, kind), row, most) + random_fitting(rng, other, row, most)
    if word == "first":
        return [("first",)] + random_fitting(rng, pair(kind, other), row, most)
    if word == "second":
        return [("second",)] + random_fitting(rng, pair(other, kind), row, most)
    if word == "let":
        return [("let",)] + random_fitting(rng, other, row, most) + random_fitting(rng, kind, [other] + row, most)
    if word == "turns":
        count = [("told", rng.randrange(4))]
        step = random_fitting(rng, kind, [kind] + row, most)
        return [("turns", kind)] + count + step + random_fitting(rng, kind, row, most)
    arms = random_fitting(rng, kind, [other] + row, most) + random_fitting(rng, kind, [third] + row, most)
    return [("which",)] + random_fitting(rng, sum_of(other, third), row, most) + arms


def random_program(rng, most):
    """A program: a random fitting term with a fun for each name of ROW around it."""
    term = random_fitting(rng, random_kind(rng, 3), list(ROW), most)
    return [("fun", kind) for kind in ROW[::-1]] + term


def random_programs(rng, many, most, nodes):
    """So many programs of at most so many nodes."""
    found = []
    while len(found) < many:
        program = random_program(rng, most)
        if len(program) <= nodes:
            found.append(program)
    return found


# [22] and [23] told once more, as they stand there, and a slow judge of rows of pieces by them.

OWN_WORDS = "fun let in which turns first second next left right count".split()
GRAMMAR = {
    "KIND": ["LETTER", "count", "( KIND )", "KIND * KIND", "KIND + KIND", "KIND > KIND"],
    "ATOM": ["NAME", "COUNT", "( TERM )", "( TERM , TERM )"],
    "ITEM": ["ATOM", "first ATOM", "second ATOM", "next ATOM", "left [ KIND ] ATOM", "right [ KIND ] ATOM"],
    "CALLS": ["ITEM", "CALLS ATOM"],
    "TERM": ["fun NAME : KIND . TERM", "let NAME = TERM in TERM", "which ATOM ( NAME . TERM ) ( NAME . TERM )",
             "turns ATOM ( NAME : KIND . TERM ) ATOM", "CALLS"],
}
GRAMMAR = {head: [told.split() for told in rows] for head, rows in GRAMMAR.items()}


def is_met(wanted, piece):
    """Whether a piece is what a row of the grammar wants there."""
    if wanted == "LETTER":
        return piece in list("abcdef")
    if wanted == "COUNT":
        return re.fullmatch("[0-9]+", piece) is not None
    if wanted == "NAME":
        return re.fullmatch("[a-z][a-z0-9]*", piece) is not None and piece not in OWN_WORDS
    return piece == wanted


def first_fault(head, pieces):
    """The place of the first piece with which nothing right can begin so; their number if more are wanted; else None."""
    rows = [grown([(head, tuple(rule), 0, 0) for rule in GRAMMAR[head]], [])]
    for place, piece in enumerate(pieces):
        taken = [(name, rule, at + 1, begin) for name, rule, at, begin in rows[-1]
                 if at < len(rule) and rule[at] not in GRAMMAR and is_met(rule[at], piece)]
        if not taken:
            return place
        rows.append(grown(taken, rows))
    is_whole = any(name == head and at == len(rule) and begin == 0 for name, rule, at, begin in rows[-1])
    return None if is_whole else len(pieces)


def grown(items, rows):
    """All items that follow from these at one place, by Earley's way; none of the rules is empty."""
    found, waiting = set(), list(items)
    while waiting:
        item = waiting.pop()
        if item in found:
            continue
        found.add(item)
        name, rule, at, begin = item
        if at == len(rule):
            waiting.extend((other, told, spot + 1, start) for other, told, spot, start in rows[begin]
                           if spot < len(told) and told[spot] == name)
        elif rule[at] in GRAMMAR:
            waiting.extend((rule[at], tuple(told), 0, len(rows)) for told in GRAMMAR[rule[at]])
    return found


# [41] to [43], [52] to [54] and [64] told once more, by functions that call themselves, for small programs.
# A function's worth is a tuple (whether it is a made one, a Python function). A new name is met as what it
# comes to at once: a Python function, a pair, or, of a letter, a list of its number, its calls and its parts.


def name_worth(kind, row):
    """What a new name, with these calls and parts, is met as."""
    if kind[0] == "fun":
        return False, lambda worth: name_worth(kind[2], row + [("call", kind[1], worth)])
    if kind[0] == "pair":
        return "both", name_worth(kind[1], row + [("first",)]), name_worth(kind[2], row + [("second",)])
    return row


def plainly_read(kind, worth, around):
    """The tree that the reader of a kind writes of a worth."""
    if kind[0] == "fun":
        node = ("fun", kind[1])
        return node, [plainly_read(kind[2], worth[1](name_worth(kind[1], [around])), around + 1)]
    if kind[0] == "pair":
        return ("both",), [plainly_read(kind[1], worth[1], around), plainly_read(kind[2], worth[2], around)]
    if kind[0] == "sum":
        side = ("left", "right").index(worth[0])
        return (worth[0], kind[2 - side]), [plainly_read(kind[1 + side], worth[1], around)]
    if kind[0] == "count":
        return ("told", worth), []
    tree = ("name", around - 1 - worth[0]), []
    for told in worth[1:]:
        tree = told[:1], [tree] + [plainly_read(*inner, around) for inner in [told[1:]] if inner]
    return tree


def positions_of(tree, position=0):
    """The tree with the position of its node at each: (position, node, inner)."""
    node, inner = tree
    found, place = [], position + 1
    for child in inner:
        found.append(positions_of(child, place))
        place += len(term_of(child))
    return position, node, found


def plainly_run(tree, row, calls):
    """The worth of a tree with positions in a row; calls is the list to which the positions of its calls are put."""
    position, node, inner = tree
    word = node[0]

    def body(child, worth, around=None):
        calls.append(position)
        return plainly_run(inner[child], [worth] + (row if around is None else around), calls)

    if word == "name":
        return row[node[1]]
    if word == "told":
        return node[1]
    if word == "fun":
        return True, lambda worth: body(0, worth)
    if word == "let":
        return body(1, plainly_run(inner[0], row, calls))
    if word == "which":
        side, on_it = plainly_run(inner[0], row, calls)
        return body(("left", "right").index(side) + 1, on_it)
    if word == "turns":
        many, worth = plainly_run(inner[0], row, calls), plainly_run(inner[2], row, calls)
        for _ in range(many):
            worth = body(1, worth)
        return worth
    below = [plainly_run(child, row, calls) for child in inner]
    return plainly_put(node, below)


def plainly_put(node, below):
    """The worth of a node or an order whose children's worths are these."""
    word = node[0]
    if word == "call":
        return below[0][1](below[1])
    if word == "both":
        return ("both", *below)
    if word in ("first", "second"):
        return below[0][("first", "second").index(word) + 1]
    if word in ("left", "right"):
        return (word, *below)
    assert word == "next"
    return below[0] + (below[0] < 1000000)


def plain_worth(program):
    """The worth of a program, and its call row."""
    calls = []
    return plainly_run(positions_of(tree_of(program)), [], calls), calls


def plain_print(kind, program):
    """The print of a program of this kind, and its calls."""
    calls = []
    worth = plainly_run(positions_of(tree_of(program)), [], calls)
    return term_of(plainly_read(kind, worth, 0)), calls


def plainly_coded(code, entry, slots, given, calls):
    """The worth of an entry; calls is the list to which a None is put at each call."""
    stack = []

    def held(source):
        return slots[source[1]] if source[0] == "slot" else given

    def made(order):
        worths = [held(source) for source in order[2]]

        def begun(worth):
            calls.append(None)
            return plainly_coded(code, order[1], worths, worth, calls)

        return True, begun

    for order in code[entry][3]:
        if order[0] in ("slot", "given"):
            stack.append(held(order))
        elif order[0] == "told":
            stack.append(order[1])
        elif order[0] == "make":
            stack.append(made(order))
        elif order[0] == "which":
            (side, on_it), left, right = stack[-3:]
            stack[-3:] = [(left if side == "left" else right)[1](on_it)]
        elif order[0] == "turns":
            many, worth, (is_made, function) = stack[-3:]
            for _ in range(many):
                calls.extend([] if is_made else [None])
                worth = function(worth)
            stack[-3:] = [worth]
        else:
            many = 2 if order[0] in ("call", "both") else 1
            stack[-many:] = [plainly_put(order, stack[-many:])]
    assert len(stack) == 1
    return stack[0]


def plain_decompiled(code):
    """What a code prints, and how many calls this makes."""
    calls = []
    worth = plainly_coded(code, 0, [], None, calls)
    return term_of(plainly_read(code[0][2], worth, 0)), len(calls)


# Programs of all shown kinds, and programs with just so many calls.


def is_plainly_shown(kind):
    """[6] told once more."""
    if kind[0] == "fun":
        return is_plainly_met(kind[1]) and is_plainly_shown(kind[2])
    return all(is_plainly_shown(inner) for inner in kind[1:] if isinstance(inner, tuple))


def is_plainly_met(kind):
    if kind[0] == "fun":
        return is_plainly_shown(kind[1]) and is_plainly_met(kind[2])
    return kind[0] in ("letter", "pair") and all(is_plainly_met(inner) for inner in kind[1:] if isinstance(inner, tuple))


def shown_programs(rng, many, most, nodes):
    """As random_programs, of shown kinds: all names of ROW are of met kinds."""
    found = []
    while len(found) < many:
        kind = random_kind(rng, 3)
        if is_plainly_shown(kind):
            program = [("fun", bound) for bound in ROW[::-1]] + random_fitting(rng, kind, list(ROW), most)
            if len(program) <= nodes:
                found.append(program)
    return found


def turned(calls, start=("told", 0)):
    """A program of count with just so many calls: next, turned so often."""
    return [("turns", COUNT), ("told", calls), ("next",), ("name", 0), start]


def random_data_kind(rng, most):
    word = rng.choice(("count", "pair", "sum")) if most > 1 else "count"
    return COUNT if word == "count" else (word, random_data_kind(rng, most - 1), random_data_kind(rng, most - 1))


# Arguments for the names of ROW, with counts in the place of all letters.
ROW_TOLD = [
    [("told", 2)],
    [("fun", COUNT), ("next",), ("name", 0)],
    [("fun", pair(COUNT, COUNT)), ("first",), ("name", 0)],
    [("both",), ("fun", COUNT), ("next",), ("next",), ("name", 0), ("told", 4)],
    [("fun", fun(COUNT, COUNT)), ("call",), ("name", 0), ("told", 1)],
]


def with_counts(value):
    """A kind, or a node, with counts in the place of all letters."""
    if not isinstance(value, tuple):
        return value
    return COUNT if value[0] == "letter" else tuple(with_counts(inner) for inner in value)


def random_data_programs(rng, many, most, nodes):
    """So many programs of data kinds, of at most so many nodes: random ones, called at an argument for each name of ROW."""
    found = []
    while len(found) < many:
        term = random_fitting(rng, random_data_kind(rng, 3), list(ROW), most)
        program = [("call",)] * len(ROW) + [("fun", kind) for kind in ROW[::-1]] + term
        program = [with_counts(node) for node in program] + [node for told in ROW_TOLD[::-1] for node in told]
        if len(program) <= nodes:
            found.append(program)
    return found


# [62], [63] and [65] told once more, and codes that nobody compiled.

TAKEN = {"next": 1, "first": 1, "second": 1, "left": 1, "right": 1, "both": 2, "call": 2, "which": 3, "turns": 3}


def plainly_told(code, position, order, taken):
    """The kind that an order of the entry there tells, of what it takes; None if it is not right."""
    slots, given, _, _ = code[position]
    match (*order, *taken):
        case ("slot", place) if place < len(slots):
            return slots[place]
        case ("given",) if given:
            return given[0]
        case ("told", _) | ("next", ("count",)):
            return COUNT
        case ("both", left, right):
            return pair(left, right)
        case ("first", ("pair", told, _)) | ("second", ("pair", _, told)):
            return told
        case ("left", right, left) | ("right", left, right):
            return sum_of(left, right)
        case ("make", entry, sources) if position < entry < len(code):
            told = [plainly_told(code, position, source, []) for source in sources]
            return fun(*code[entry][1], code[entry][2]) if told == list(code[entry][0]) else None
        case ("call", ("fun", wanted, told), argument) if wanted == argument:
            return told
        case ("which", ("sum", left, right), ("fun", one, told), ("fun", two, other)):
            return told if (left, right, told) == (one, two, other) else None
        case ("turns", ("count",), start, ("fun", taken, told)) if start == taken == told:
            return start
    return None


def is_plainly_right(code):
    """Whether all entries of a code are right, its things being of the forms that codes have."""
    for position, (_, _, kind, orders) in enumerate(code):
        stack = []
        for order in orders:
            least = len(stack) - TAKEN.get(order[0], 0)
            told = plainly_told(code, position, order, stack[least:]) if least >= 0 else None
            if told is None or is_plainly_too_great(told):
                return False
            stack[least:] = [told]
        if stack != [kind]:
            return False
    return True


def is_plainly_too_great(kind):
    def deep_in(inner):
        return 1 + max([deep_in(one) for one in inner[1:] if isinstance(one, tuple)], default=0)

    return str(kind).count("(") > 60 or deep_in(kind) > 12


def detoured(rng, code):
    """A right code with one more detour, at a random place of it, or None."""
    position = rng.randrange(len(code))
    slots, given, kind, orders = code[position]
    place = rng.randrange(1, len(orders) + 1)
    detour = rng.choice([
        [("told", 7), ("both",), ("first",)], [("next",)], [("make", position + 1, []), ("both",), ("first",)],
        [("given",), ("both",), ("first",)], [("slot", 0), ("both",), ("first",)], [("told", 3), ("both",), ("second",), ("next",)]])
    changed = (slots, given, kind, orders[:place] + detour + orders[place:])
    made = code[:position] + [changed] + code[position + 1:]
    return made if is_plainly_right(made) else None


def moved(code, position, many):
    """The code's entries, with makes of entries from the position on told so many further on."""
    def later(order):
        return ("make", order[1] + many, order[2]) if order[0] == "make" and order[1] >= position else order

    return [(slots, given, kind, [later(order) for order in orders]) for slots, given, kind, orders in code]


def with_twin(rng, code):
    """A right code with one entry twice, of which one make tells the one, perhaps, and others the other one."""
    position = rng.randrange(1, len(code)) if len(code) > 1 else 0
    if position == 0:
        return code
    made = moved(code, position, 1)
    made = made[:position] + [made[position]] + made[position:]

    def either(order):
        return ("make", position, order[2]) if order[:2] == ("make", position + 1) and rng.randrange(2) else order

    return [(slots, given, kind, [either(order) for order in orders]) if place < position else (slots, given, kind, orders)
            for place, (slots, given, kind, orders) in enumerate(made)]


def with_turned_slots(rng, code):
    """A right code whose slots stand in another sequence, entry by entry."""
    rows = [rng.sample(range(len(slots)), len(slots)) for slots, _, _, _ in code]

    def turned_order(order, row):
        if order[0] == "slot":
            return ("slot", row.index(order[1]))
        if order[0] == "make":
            sources = [turned_order(source, row) for source in order[2]]
            return ("make", order[1], [sources[place] for place in rows[order[1]]])
        return order

    return [([slots[place] for place in row], given, kind, [turned_order(order, row) for order in orders])
            for row, (slots, given, kind, orders) in zip(rows, code)]


def changed_code(rng, code):
    """A right code that nobody compiled, of the same kind."""
    for _ in range(4):
        code = detoured(rng, code) or code
        code = with_twin(rng, code) if rng.randrange(2) else code
    return with_turned_slots(rng, code)


# Closed programs of kinds that arguments may have, and programs that are called at such ones first.

CLOSED = {
    "count": ["0", "3", "next 1", "turns 2 (x : count. next x) 1"],
    "a > a": ["fun x : a. x", "fun x : a. let y = x in y"],
    "count > count": ["fun n : count. next n", "fun n : count. 4", "fun n : count. turns n (x : count. next x) n"],
    "count + (a > a)": ["left[a > a] 2", "right[count] (fun x : a. x)"],
    "(a > a) > a > a": ["fun f : a > a. f", "fun f : a > a. fun x : a. f (f x)", "fun f : a > a. fun x : a. x"],
    "a * a > a": ["fun p : a * a. first p", "fun p : a * a. second p"],
    "(count > count) * count": ["(fun n : count. next n, 2)", "let g = fun n : count. next (next n) in (g, g 1)"],
    "a > b > a": ["fun x : a. fun y : b. x"],
    "(a * b) > b * a": ["fun p : a * b. (second p, first p)"],
}


def random_called(rng, many, most, nodes):
    """So many tuples: a program, as many arguments for it as it has ahead of those of ROW, and their kinds' texts."""
    found = []
    while len(found) < many:
        texts = [rng.choice(list(CLOSED)) for _ in range(rng.randrange(1, 4))]
        kinds = [read_kind(text) for text in texts]
        kind = random_kind(rng, 3)
        if not is_plainly_shown(kind):
            continue
        # Inside stand the names of ROW, around them those of the arguments, the last one nearest.
        term = random_fitting(rng, kind, kinds[::-1] + list(ROW), most)
        inner = [("fun", bound) for bound in ROW[::-1] + kinds] + term
        outer = [("fun", bound) for bound in kinds + ROW[::-1]]
        names = list(range(len(ROW) - 1, -1, -1)) + list(range(len(outer) - 1, len(ROW) - 1, -1))
        program = outer + [("call",)] * len(outer) + inner + [("name", name) for name in names]
        arguments = [read_program(rng.choice(CLOSED[text])) for text in texts]
        if len(program) <= nodes:
            found.append((program, arguments, texts))
    return found


# [81] to [83] told once more, and pairs of programs of one shown kind.


def plain_head(tree):
    """Of what stands at a letter's place: the name, the words from it out, and the arguments, the nearest first."""
    words, arguments = [], []
    while tree[0][0] != "name":
        words.insert(0, tree[0][0])
        arguments = tree[1][1:] + arguments
        tree = tree[1][0]
    return tree[0], words, arguments


def plain_parting(one, other):
    """The way of the first parting of two plain long trees; None if there is none."""
    (node, inner), (other_node, other_inner) = one, other
    if node[0] in ("fun", "left", "right") and node == other_node:
        found = plain_parting(inner[0], other_inner[0])
        return None if found is None else [(node[0],)] + found
    if node[0] == "both":
        for word, child, other_child in zip(("first", "second"), inner, other_inner):
            found = plain_parting(child, other_child)
            if found is not None:
                return [(word,)] + found
        return None
    if node[0] in ("told", "left", "right"):
        return None if node == other_node else []
    name, words, arguments = plain_head(one)
    other_name, other_words, other_arguments = plain_head(other)
    if (name, words) != (other_name, other_words):
        return []
    for place, (argument, other_argument) in enumerate(zip(arguments, other_arguments)):
        found = plain_parting(argument, other_argument)
        if found is not None:
            return [("argument", place)] + found
    return None


def plain_row(many):
    return COUNT if many == 1 else pair(COUNT, plain_row(many - 1))


def in_rows(value, many):
    """A kind, or a node, with rows of so many counts in the place of all letters."""
    if not isinstance(value, tuple):
        return value
    return plain_row(many) if value[0] == "letter" else tuple(in_rows(inner, many) for inner in value)


def signs_and_depth(kind):
    inner = [signs_and_depth(one) for one in kind[1:] if isinstance(one, tuple)]
    return 1 + sum(signs for signs, _ in inner), 1 + max([deep_in for _, deep_in in inner], default=0)


def shown_pairs(rng, many, most, nodes):
    """So many pairs of programs of one shown kind, of at most so many nodes each."""
    found = []
    while len(found) < many:
        kind = random_kind(rng, 3)
        if is_plainly_shown(kind):
            funs = [("fun", bound) for bound in ROW[::-1]]
            one, two = [funs + random_fitting(rng, kind, list(ROW), most) for _ in range(2)]
            if max(len(one), len(two)) <= nodes:
                found.append((one, two))
    return found


# Pairs that part: the ways of their first partings.
PARTINGS = [
    # In funs.
    ("fun x : a. fun y : a. x", "fun x : a. fun y : a. y", [("fun",), ("fun",)]),
    ("fun x : a. fun f : a > a. x", "fun x : a. fun f : a > a. f x", [("fun",), ("fun",)]),
    # In pairs, the first ahead of the second part.
    ("(1, 2)", "(1, 3)", [("second",)]), ("(1, 2)", "(2, 2)", [("first",)]), ("(1, 2)", "(3, 4)", [("first",)]),
    ("((1, 2), (3, 4))", "((1, 2), (4, 4))", [("second",), ("first",)]),
    ("(fun x : a. fun y : a. x, 1)", "(fun x : a. fun y : a. y, 2)", [("first",), ("fun",), ("fun",)]),
    # In sides, and in what is told.
    ("left[count] 1", "right[count] 1", []), ("right[count] 1", "left[count] 1", []), ("left[count] 1", "left[count] 2", [("left",)]),
    ("right[a] 4", "right[a] 1000000", [("right",)]),
    ("fun x : a. fun y : a. left[count] x", "fun x : a. fun y : a. left[count] y", [("fun",), ("fun",), ("left",)]),
    ("fun x : a. left[a] x", "fun x : a. right[a] x", [("fun",)]),
    # In counts.
    ("0", "1", []), ("7", "6", []), ("fun x : a. 5", "fun x : a. 65", [("fun",)]),
    # In heads.
    ("fun f : a > a. fun g : a > a. fun x : a. f x", "fun f : a > a. fun g : a > a. fun x : a. g x", [("fun",)] * 3),
    ("fun f : a > a. fun x : a. f x", "fun f : a > a. fun x : a. x", [("fun",)] * 2),
    # In parts, and in calls, around one head.
    ("fun p : a * a. first p", "fun p : a * a. second p", [("fun",)]),
    ("fun p : a * (a * a). first (second p)", "fun p : a * (a * a). first p", [("fun",)]),
    ("fun p : a * (a * a). first (second p)", "fun p : a * (a * a). second (second p)", [("fun",)]),
    ("fun f : a > a * a. fun x : a. first (f x)", "fun f : a > a * a. fun x : a. second (f x)", [("fun",)] * 2),
    ("fun p : (a > a) * a. first p (second p)", "fun p : (a > a) * a. second p", [("fun",)]),
    # In arguments, the nearest to the head first.
    ("fun f : a > a. fun x : a. f (f x)", "fun f : a > a. fun x : a. f x", [("fun",), ("fun",), ("argument", 0)]),
    ("fun f : a > a > a. fun x : a. fun y : a. f x y", "fun f : a > a > a. fun x : a. fun y : a. f y x", [("fun",)] * 3 + [("argument", 0)]),
    ("fun f : a > a > a. fun x : a. fun y : a. f x y", "fun f : a > a > a. fun x : a. fun y : a. f x x", [("fun",)] * 3 + [("argument", 1)]),
    ("fun f : a > a > a. fun x : a. fun y : a. f x (f y x)", "fun f : a > a > a. fun x : a. fun y : a. f x (f y y)",
     [("fun",)] * 3 + [("argument", 1), ("argument", 1)]),
    ("fun f : count > a > a. fun x : a. f 1 (f 2 x)", "fun f : count > a > a. fun x : a. f 2 (f 2 x)", [("fun",)] * 2 + [("argument", 0)]),
    ("fun f : count + a > a. fun x : a. f (left[a] 3)", "fun f : count + a > a. fun x : a. f (right[count] x)", [("fun",)] * 2 + [("argument", 0)]),
    ("fun f : count + a > a. fun x : a. f (left[a] 3)", "fun f : count + a > a. fun x : a. f (left[a] 4)",
     [("fun",)] * 2 + [("argument", 0), ("left",)]),
    ("fun f : a + a > a. fun x : a. fun y : a. f (right[a] x)", "fun f : a + a > a. fun x : a. fun y : a. f (right[a] y)",
     [("fun",)] * 3 + [("argument", 0), ("right",)]),
    ("fun f : count * (a > a > a) > a. f (1, fun x : a. fun y : a. x)", "fun f : count * (a > a > a) > a. f (1, fun x : a. fun y : a. y)",
     [("fun",), ("argument", 0), ("second",), ("fun",), ("fun",)]),
    # Arguments are told apart from parts between them.
    ("fun f : a > a * (a > a). fun x : a. fun y : a. second (f x) y", "fun f : a > a * (a > a). fun x : a. fun y : a. second (f x) x",
     [("fun",)] * 3 + [("argument", 1)]),
    ("fun p : a * (a > a). second p (first p)", "fun p : a * (a > a). second p (second p (first p))", [("fun",), ("argument", 0)]),
    # Deep ones, with the same head more than once.
    ("fun f : a > a. fun x : a. f (f (f x))", "fun f : a > a. fun x : a. f (f (f (f x)))", [("fun",)] * 2 + [("argument", 0)] * 3),
    ("fun f : (a > a) > a. f (fun x : a. f (fun y : a. x))", "fun f : (a > a) > a. f (fun x : a. f (fun y : a. y))",
     [("fun",), ("argument", 0), ("fun",), ("argument", 0), ("fun",)]),
    ("fun f : (a > a) > a. fun g : a > a. f (fun x : a. g (f (fun y : a. y)))", "fun f : (a > a) > a. fun g : a > a. f (fun x : a. g (f (fun y : a. x)))",
     [("fun",)] * 2 + [("argument", 0), ("fun",), ("argument", 0), ("argument", 0), ("fun",)]),
    # Detours leave no trace.
    ("fun f : a > a. f", "fun f : a > a. fun x : a. let g = f in g (g x)", [("fun",)] * 2 + [("argument", 0)]),
    ("turns 3 (x : count * count. (second x, next (first x))) (0, 10)", "(next 10, 1)", [("second",)]),
    ("(fun p : (a > a > a) * count. first p) (fun x : a. fun y : a. x, 1)", "let g = fun x : a. fun y : a. y in g", [("fun",), ("fun",)]),
]

# Pairs of one shown kind that print alike.
ALIKE = [
    ("5", "next 4"), ("fun x : a. x", "fun x : a. let y = x in y"), ("fun f : a > a. f", "fun f : a > a. fun x : a. f x"),
    ("fun p : a * b. p", "fun p : a * b. (first p, second p)"), ("left[a > a] 4", "left[a > a] (first (4, 5))"),
    ("fun f : a > a. fun x : a. turns 2 (y : a. f y) x", "fun f : a > a. fun x : a. f (f x)"),
]


# Desks, and what can be seen of them.


def filled(*commands):
    """A desk that has done these commands."""
    desk = Desk()
    desk.do_all(*commands)
    return desk


def seen(desk):
    """All that can be seen of a desk without changing it."""
    names, labels = desk.names, desk.labels
    return (names, labels, [desk[name] for name in names], [desk.claim_of(label) for label in labels],
            [desk.fits(label) for label in labels], desk.lines(), len(desk), desk.do("states"),
            [desk.do(f"claimed {label}") for label in labels])


def all_seen(desk):
    """What can be seen of a desk, and of each one that comes by doing again what was taken back."""
    twin, found = desk.copy(), [seen(desk)]
    while True:
        try:
            twin.do("redo")
        except NothingToRedo:
            return found
        found.append(seen(twin))


class DeskChecks(Checks):
    """Checks of what desks answer, and of errors behind which nothing has changed."""

    def does(self, answer, desk, command):
        self.assertEqual(desk.do(command), answer, command)

    def fails(self, wanted, attributes, desk, command):
        before = all_seen(desk)
        for call in (lambda: desk.do(command), lambda: desk(command), lambda: desk.do(command=command)):
            with self.assertRaises(wanted, msg=command) as caught:
                call()
            self.assertIs(type(caught.exception), wanted)
            self.assertEqual(set(vars(caught.exception)), set(attributes))
            for name, value in attributes.items():
                found = getattr(caught.exception, name)
                self.assertTrue(same(found, value), f"{command}: {name} is {found!r}, wanted {value!r}")
            self.assertEqual(all_seen(desk), before)
