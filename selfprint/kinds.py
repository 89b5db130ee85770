"""Kinds: what they are, which are shown, met and data, and letters put in them."""

from selfprint.basics import is_count
from selfprint.errors import InvalidKind, InvalidLetter, NotData, NotShown, TooMany

MOST_SIGNS = 60
MOST_DEEP = 12
LAST_LETTER = 5
COUNT = ("count",)
OF_TWO = ("pair", "sum", "fun")


def is_letter(value):
    """Whether any value is the number of a letter."""
    return is_count(value) and value <= LAST_LETTER


def is_sign(value):
    """Whether any value is a sign, whatever stands in the place of the kinds within it."""
    if not isinstance(value, tuple) or not value or not isinstance(value[0], str):
        return False
    if value[0] == "letter":
        return len(value) == 2 and is_letter(value[1])
    if value[0] == "count":
        return len(value) == 1
    return value[0] in OF_TWO and len(value) == 3


def inner_kinds(kind):
    """The kinds right within a kind, a tuple of none or two."""
    return kind[1:] if kind[0] in OF_TWO else ()


def is_kind(value):
    """Whether any value is a kind."""
    waiting = [(value, 1)]
    signs = 0
    while waiting:
        sign, deep = waiting.pop()
        signs += 1
        if signs > MOST_SIGNS or deep > MOST_DEEP or not is_sign(sign):
            return False
        waiting.extend([(inner, deep + 1) for inner in inner_kinds(sign)])
    return True


def need_kind(kind):
    """InvalidKind unless it is a kind."""
    if not is_kind(kind):
        raise InvalidKind(kind)


def need_letter(letter):
    """InvalidLetter unless it is the number of a letter."""
    if not is_letter(letter):
        raise InvalidLetter(letter)


def is_shown(kind):
    """Whether a kind is shown."""
    need_kind(kind)
    return seen_as_shown(kind)


def is_met(kind):
    """Whether a kind is met."""
    need_kind(kind)
    return seen_as_met(kind)


def is_data(kind):
    """Whether a kind is a data kind."""
    need_kind(kind)
    return seen_as_data(kind)


def seen_as_shown(kind):
    """As is_shown, of what is surely a kind."""
    if kind[0] == "fun":
        return seen_as_met(kind[1]) and seen_as_shown(kind[2])
    return all([seen_as_shown(inner) for inner in inner_kinds(kind)])


def seen_as_met(kind):
    """As is_met, of what is surely a kind."""
    if kind[0] == "fun":
        return seen_as_shown(kind[1]) and seen_as_met(kind[2])
    if kind[0] == "pair":
        return seen_as_met(kind[1]) and seen_as_met(kind[2])
    return kind[0] == "letter"


def seen_as_data(kind):
    """As is_data, of what is surely a kind."""
    if kind[0] in ("letter", "fun"):
        return False
    return all([seen_as_data(inner) for inner in inner_kinds(kind)])


def need_shown(kind):
    """NotShown unless what is surely a kind is shown."""
    if not seen_as_shown(kind):
        raise NotShown()


def need_data(kind):
    """NotData unless what is surely a kind is a data kind."""
    if not seen_as_data(kind):
        raise NotData()


def signs_of(kind):
    """How many signs there are; it may be too great for a kind."""
    return 1 + sum([signs_of(inner) for inner in inner_kinds(kind)])


def depth_of(kind):
    """How deep it is; it may be too great for a kind."""
    return 1 + max([depth_of(inner) for inner in inner_kinds(kind)], default=0)


def is_too_great(kind):
    """Whether what is made of kinds has too many signs for one, or is too deep."""
    return signs_of(kind) > MOST_SIGNS or depth_of(kind) > MOST_DEEP


def kind_size(kind):
    """How many signs a kind has."""
    need_kind(kind)
    return signs_of(kind)


def letters(kind):
    """The sorted list of a kind's letters, each once."""
    need_kind(kind)
    return sorted(set(letters_met(kind)))


def letters_met(kind):
    """The list of the letters from left to right, as often as they stand there."""
    if kind[0] == "letter":
        return [kind[1]]
    found = []
    for inner in inner_kinds(kind):
        found.extend(letters_met(inner))
    return found


def put_kind(kind, letter, other):
    """The kind with the letter put as the other one."""
    need_kind(kind)
    need_letter(letter)
    need_kind(other)
    return put_small(kind, letter, other)


def put_small(kind, letter, other):
    """As put_kind, of surely valid values: TooMany if what comes is too great."""
    made = put_freely(kind, letter, other)
    if signs_of(made) > MOST_SIGNS:
        raise TooMany("signs", MOST_SIGNS)
    if depth_of(made) > MOST_DEEP:
        raise TooMany("depth", MOST_DEEP)
    return made


def put_freely(kind, letter, other):
    """The kind with the letter put, however great it grows."""
    if kind[0] == "letter":
        return other if kind[1] == letter else kind
    if kind[0] == "count":
        return kind
    return (kind[0], put_freely(kind[1], letter, other), put_freely(kind[2], letter, other))
