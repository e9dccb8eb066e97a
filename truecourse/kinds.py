"""Whether values are of the plain kinds: INTEGERS, COUNTS, lists and tuples of so many."""

MOST_LETTERS = 8


def is_integer(value):
    # Python takes True for a number, the package never does.
    return isinstance(value, int) and not isinstance(value, bool)


def is_count(value):
    return is_integer(value) and value >= 0


def is_from_to(value, least, most):
    return is_integer(value) and least <= value <= most


def is_listed(value):
    """Whether a value may stand where a list is asked: a tuple may, too."""
    return isinstance(value, (list, tuple))


def is_some_tuple(value):
    """Whether a value is a tuple with as many parts as a system may have letters."""
    return isinstance(value, tuple) and 1 <= len(value) <= MOST_LETTERS
