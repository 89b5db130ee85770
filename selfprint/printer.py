"""Kinds and terms written as texts, in the one way in which they are written."""

from selfprint.checked import need_program
from selfprint.errors import OpenName, TooMany
from selfprint.kinds import need_kind
from selfprint.nodes import binders
from selfprint.signs import KIND_LETTERS, need_outside
from selfprint.terms import need_term

MOST_TEXT = 8000

# How tight a thing holds together, as a term and as a kind: it is put in
# brackets wherever what stands there must hold together tighter.
LOOSE = 0
ITEM = 1
ATOM = 2
TIGHT_WORDS = {
    "fun": LOOSE,
    "let": LOOSE,
    "which": LOOSE,
    "turns": LOOSE,
    "call": ITEM,
    "first": ITEM,
    "second": ITEM,
    "next": ITEM,
    "left": ITEM,
    "right": ITEM,
    "name": ATOM,
    "told": ATOM,
    "both": ATOM,
}

# The mark of a kind, how tight it holds together, and how tight both sides must.
MARKED = {
    "fun": (" > ", 0, 1, 0),
    "sum": (" + ", 1, 1, 2),
    "pair": (" * ", 2, 2, 3),
}


def kind_text(kind, wanted):
    """The text of a kind, in brackets if it holds together less tight than is wanted."""
    if kind[0] == "letter":
        return KIND_LETTERS[kind[1]]
    if kind[0] == "count":
        return "count"
    mark, tight, left, right = MARKED[kind[0]]
    text = kind_text(kind[1], left) + mark + kind_text(kind[2], right)
    return f"({text})" if tight < wanted else text


def write_kind(kind):
    """The written text of a kind."""
    need_kind(kind)
    return kind_text(kind, LOOSE)


def leaf_text(node, around, outside):
    """The text of a name or a told count."""
    if node[0] == "told":
        return str(node[1])
    if node[1] < around:
        return f"x{around - 1 - node[1]}"
    return outside[node[1] - around]


def node_pieces(node, around, outside):
    """What a node is written as: strings, and for its children tuples of binders around and wanted tightness."""
    word = node[0]
    loose, item, atom, inner = (around, LOOSE), (around, ITEM), (around, ATOM), (around + 1, LOOSE)
    if word in ("name", "told"):
        return [leaf_text(node, around, outside)]
    if word == "fun":
        return [f"fun x{around} : {kind_text(node[1], LOOSE)}. ", inner]
    if word == "call":
        return [item, " ", atom]
    if word == "both":
        return ["(", loose, ", ", loose, ")"]
    if word in ("left", "right"):
        return [f"{word}[{kind_text(node[1], LOOSE)}] ", atom]
    if word == "which":
        return ["which ", atom, f" (x{around}. ", inner, f") (x{around}. ", inner, ")"]
    if word == "turns":
        return ["turns ", atom, f" (x{around} : {kind_text(node[1], LOOSE)}. ", inner, ") ", atom]
    if word == "let":
        return [f"let x{around} = ", loose, " in ", inner]
    return [word + " ", atom]


def term_text(term, outside):
    """The text of a term whose open names all have a name outside."""
    texts = []
    position = 0
    waiting = [(0, LOOSE)]
    while waiting:
        thing = waiting.pop()
        if isinstance(thing, str):
            texts.append(thing)
            continue
        around, wanted = thing
        node = term[position]
        position += 1
        found = node_pieces(node, around, outside)
        if TIGHT_WORDS[node[0]] < wanted:
            found = ["("] + found + [")"]
        waiting.extend(found[::-1])
    return "".join(texts)


def needs_more(term, many):
    """Whether a term has an open name that is not among so many."""
    return any([node[0] == "name" and node[1] - around >= many for node, around in zip(term, binders(term))])


def short_text(term, outside):
    """As write_term, of what are surely a term and an outside."""
    if needs_more(term, len(outside)):
        raise OpenName()
    text = term_text(term, outside)
    if len(text) > MOST_TEXT:
        raise TooMany("text", MOST_TEXT)
    return text


def write_term(term, outside):
    """The written text of a term, its open names having the names outside."""
    need_term(term)
    need_outside(outside)
    return short_text(term, outside)


def written(program):
    """The written text of a program."""
    need_program(program)
    return short_text(program, [])
