"""What the other files ask of any value: INTEGERS, COUNTS and lists."""


def is_integer(value):
    """Whether any value is an INTEGER: True and False are none."""
    return isinstance(value, int) and not isinstance(value, bool)


def is_count(value):
    """Whether any value is a COUNT."""
    return is_integer(value) and value >= 0


def is_list(value):
    """Whether any value is a list, or a tuple, which does for one."""
    return isinstance(value, (list, tuple))
