"""What every part of the package asks of single values and of weights."""


def is_int(value):
    """Whether any value is an integer: an int that is not a bool."""
    return isinstance(value, int) and not isinstance(value, bool)


def is_count(value):
    """Whether any value is an integer from 0 on."""
    return is_int(value) and value >= 0


def counts(value, keys):
    """Whether any value is a dict from just the keys, unlike ones, to integers from 0 on."""
    if not isinstance(value, dict) or len(value) != len(keys):
        return False
    return all([key in value and is_count(value[key]) for key in keys])


def is_weights(value, many):
    """Whether any value is weights, one for each of so many things."""
    if not isinstance(value, tuple) or len(value) != many:
        return False
    return all([is_count(weight) for weight in value]) and sum(value) > 0


def weighed(weights, numbers):
    """The sum of the numbers, each times its weight."""
    return sum([weight * number for weight, number in zip(weights, numbers)])
