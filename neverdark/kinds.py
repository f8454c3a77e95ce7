"""What kinds of values there are, asked of any value made of tuples, texts and integers."""


def is_integer_in(value, least, most):
    """Tell if the value is an integer from `least` to `most`."""
    return isinstance(value, int) and not isinstance(value, bool) and least <= value <= most


def is_tuple_of(value, least, most):
    """Tell if the value is a tuple with `least` to `most` parts."""
    return isinstance(value, tuple) and least <= len(value) <= most


def is_ascending(values):
    """Tell if each of the values is greater than the one before it."""
    return all([low < high for low, high in zip(values, values[1:])])
