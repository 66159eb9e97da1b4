"""Values that several tests use."""

from termlays.sheets import Sheet

# Values of every kind that callers may hand in where the document says "any value".
ANY_VALUES = [
    None, True, False, 0, 1, -1, 12, 13, 10 ** 60, "", "a", "now", "A", "a b", "nine letters", "\n", "\t~",
    (), [], {}, ("a",), ["a"], {"a": 1}, ("now",), ["now"], ("a", ("now",), 12), ["a", ["now"], 12],
    [("a", ("now",), 12)], {("a",): ["b"]}, (((), [None]), {"a": [{}]}), [[[[[[[[[[]]]]]]]]]], Sheet([]),
]

# One term of each kind of lay, with least and share at their edges.
MIXED = [
    ("a", ("now",), 12),
    ("b", ("behind", ("a",)), 8),
    ("c", ("split", "a", 6), 12),
    ("d", ("beside", "b"), 0),
    ("e", ("behind", ("d", "c")), 1),
    ("f", ("split", "e", 11), 7),
    ("g", ("split", "a", 1), 11),
]


def any_values_but(*kinds):
    """The values of every kind but those that are instances of the kinds."""
    return [value for value in ANY_VALUES if not isinstance(value, kinds)]


def raised(kind, call, *given, **named):
    """The error of just this kind that the call raises."""
    try:
        call(*given, **named)
    except kind as error:
        if type(error) is not kind:
            raise AssertionError(f"{type(error).__name__} in the place of {kind.__name__}") from error
        return error
    raise AssertionError(f"no {kind.__name__}")
