"""What kind a plain value is of: INTEGERS, COUNTS, lists."""


def is_integer(value):
    """Whether any value is an INTEGER: an int that is not a truth."""
    return isinstance(value, int) and not isinstance(value, bool)


def is_count(value):
    """Whether any value is a COUNT: an INTEGER that is at least 0."""
    return is_integer(value) and value >= 0


def is_list(value):
    """Whether any value is accepted where a list is passed: a tuple is, too."""
    return isinstance(value, (list, tuple))


def is_within(value, least, most):
    """Whether any value is an INTEGER from the least to the most one."""
    return is_integer(value) and least <= value <= most
