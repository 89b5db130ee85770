"""Tiny programs, and the interpreter of which nothing is left at one."""

from selfprint.basics import is_count, is_list
from selfprint.errors import InvalidTiny
from selfprint.kinds import COUNT
from selfprint.left import left_of
from selfprint.reader import read_program

MOST_ORDERS = 4
MOST_TIMES = 9

# On which side each order stands, and on which side of that.
SIDES = {
    "f": ("left", "left"),
    "g": ("left", "right"),
    "swap": ("right", "left"),
    "keep": ("right", "right"),
}
LACKING = ("f", 0)


def is_order(value):
    """Whether any value is an order of a tiny program."""
    if not isinstance(value, tuple) or len(value) != 2:
        return False
    word, times = value
    return isinstance(word, str) and word in SIDES and is_count(times) and times <= MOST_TIMES


def is_tiny(value):
    """Whether any value is a tiny program."""
    return is_list(value) and len(value) <= MOST_ORDERS and all([is_order(order) for order in value])


def need_tiny(tiny):
    """InvalidTiny unless it is a tiny program."""
    if not is_tiny(tiny):
        raise InvalidTiny(tiny)


def order_term(order):
    """An order as a term."""
    word, times = order
    outer, inner = SIDES[word]
    # Both sides are of one kind, so it does not matter which one is told.
    return [(outer, ("sum", COUNT, COUNT)), (inner, COUNT), ("told", times)]


def tiny_term(tiny):
    """A tiny program as a term, plain."""
    need_tiny(tiny)
    orders = list(tiny) + [LACKING] * (MOST_ORDERS - len(tiny))
    made = []
    for order in orders[:-1]:
        made.extend([("both",)] + order_term(order))
    return made + order_term(orders[-1])


def interpreter():
    """The interpreter: it does the orders of a tiny program on the pair of the now and the kept one."""
    order = "((count + count) + (count + count))"
    return read_program("\n".join([
        f"fun p : {order} * ({order} * ({order} * {order})). fun f : a > a. fun g : a * a > a. fun x : a.",
        f"let do = fun o : {order}. fun s : a * a. which o",
        "(l. which l (n. turns n (s : a * a. (f (first s), second s)) s) (n. turns n (s : a * a. (g s, second s)) s))",
        "(r. which r (n. turns n (s : a * a. (second s, first s)) s) (n. turns n (s : a * a. (first s, first s)) s))",
        "in first (do (second (second (second p))) (do (first (second (second p)))",
        "(do (first (second p)) (do (first p) (x, x)))))",
    ]))


def tiny_left(tiny):
    """What is left of the interpreter at a tiny program."""
    return left_of(interpreter(), [tiny_term(tiny)])
