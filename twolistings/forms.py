"""The forms of values: integers, tuples, and entries that are replaced by numbers."""


def is_integer(value):
    """Whether a value is an integer; True and False are none."""
    return isinstance(value, int) and not isinstance(value, bool)


def is_between(value, least, most):
    """Whether a value is an integer from least to most."""
    return is_integer(value) and least <= value <= most


def is_tuple_of(value, size):
    """Whether a value is a tuple of so many elements."""
    return isinstance(value, tuple) and len(value) == size


def numbered(entries):
    """The entries of a list, replaced by numbers in the order in which they first appear in it; 0 stays 0."""
    numbers = {0: 0}
    for entry in entries:
        if entry not in numbers:
            numbers[entry] = len(numbers)
    return [numbers[entry] for entry in entries]


def is_numbered(entries):
    """Whether a list of values is one of integers that replacing them by numbers leaves as they are."""
    return all([is_integer(entry) for entry in entries]) and numbered(entries) == entries
