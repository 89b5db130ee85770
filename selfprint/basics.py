"""What the other files ask of any value: INTEGERS, COUNTS and lists; and values with new lists."""


def is_integer(value):
    """Whether any value is an INTEGER: True and False are none."""
    return isinstance(value, int) and not isinstance(value, bool)


def is_count(value):
    """Whether any value is a COUNT."""
    return is_integer(value) and value >= 0


def is_list(value):
    """Whether any value is a list, or a tuple, which does for one."""
    return isinstance(value, (list, tuple))


def renewed(value):
    """The value with new lists and tuples, also within."""
    if isinstance(value, list):
        return [renewed(inner) for inner in value]
    if isinstance(value, tuple):
        return tuple([renewed(inner) for inner in value])
    return value
