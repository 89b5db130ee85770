"""Rows of counts for letters, and callers that tell programs from one another."""

from selfprint.asking import Asker
from selfprint.basics import is_count
from selfprint.checked import found_kinds, need_program
from selfprint.errors import InvalidMany, InvalidPlace, TooMany
from selfprint.kinds import MOST_DEEP, MOST_SIGNS
from selfprint.nodes import WITH_KIND
from selfprint.rows import MOST_ROW, depth_in_rows, is_row_size, kind_in_rows, part_words, row_of, signs_in_rows
from selfprint.termrun import TermRun
from selfprint.terms import need_few_nodes
from selfprint.trails import Trail
from selfprint.ways import both_printed, way_of_parting


def need_row_size(many):
    """InvalidMany unless it tells of how many counts a row can be."""
    if not is_row_size(many):
        raise InvalidMany(many)


def row_kind(many):
    """The kind of a row of so many counts."""
    need_row_size(many)
    return row_of(many)


def row_part(many, place):
    """The program that takes the count at a place of a row of so many counts."""
    need_row_size(many)
    if not is_count(place) or place >= many:
        raise InvalidPlace(place)
    return [("fun", row_of(many))] + part_words(many, place) + [("name", 0)]


def rows_put(many, program):
    """The program put as rows of so many counts."""
    need_row_size(many)
    need_program(program)
    need_small_in_rows(many, found_kinds([], program))
    return put_in_rows(many, program)


def need_small_in_rows(many, kinds):
    """TooMany if one of the kinds, put as rows, has too many signs, or else is too deep."""
    if max([signs_in_rows(kind, many) for kind in kinds]) > MOST_SIGNS:
        raise TooMany("signs", MOST_SIGNS)
    if max([depth_in_rows(kind, many) for kind in kinds]) > MOST_DEEP:
        raise TooMany("depth", MOST_DEEP)


def put_in_rows(many, program):
    """As rows_put, however great kinds grow."""
    row = row_of(many)
    return [(node[0], kind_in_rows(node[1], row)) if node[0] in WITH_KIND else node for node in program]


def caller_kind(many, kind):
    """The kind of callers of programs of the kind, put as rows of so many counts, however great it is."""
    return ("fun", kind_in_rows(kind, row_of(many)), ("count",))


def comes_to(caller, put):
    """The count to which a caller comes, called at a program put as rows."""
    # Both together may well have more nodes than a term: they are run alone.
    run = TermRun([("call",)] + list(caller) + put)
    return run.worth()


def test_of(program, other):
    """A test of two programs; None if they print alike."""
    one, two = both_printed(program, other)
    way = way_of_parting(one, two)
    if way is None:
        return None
    asker = Asker(Trail(one, two, way))
    kinds = found_kinds([], program)
    need_room(asker.many, kinds)
    need_room(asker.many, found_kinds([], other))
    need_small_in_rows(asker.many, [("fun", kinds[0], ("count",))])
    caller = asker.caller(kinds[0])
    need_few_nodes(caller)
    for called in (program, other):
        # A run with too many calls is stopped by its own limit.
        comes_to(caller, put_in_rows(asker.many, called))
    return (asker.many, caller)


def need_room(many, kinds):
    """As need_small_in_rows, of any number of counts: of more than a row has there are always too many signs."""
    if many > MOST_ROW:
        raise TooMany("signs", MOST_SIGNS)
    need_small_in_rows(many, kinds)
