"""What every part of the package asks of single values."""


def is_int(value):
    """Whether any value is an integer: an int that is not a bool."""
    return isinstance(value, int) and not isinstance(value, bool)
