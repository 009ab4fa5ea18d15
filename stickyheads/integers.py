"""What counts as an integer, for all modules of the package."""


def is_integer_within(value, least, greatest):
    """Return whether the value is an integer from `least` to `greatest`."""
    # Python counts True and False among the ints, the package does not.
    return isinstance(value, int) and not isinstance(value, bool) and least <= value <= greatest
