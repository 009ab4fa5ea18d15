"""What counts as an integer, for all modules of the package."""

from stickyheads.errors import InvalidNumberError


def is_integer_from(value, least):
    """Return whether the value is an integer from `least` on."""
    # Python counts True and False among the ints, the package does not.
    return isinstance(value, int) and not isinstance(value, bool) and value >= least


def is_integer_within(value, least, greatest):
    """Return whether the value is an integer from `least` to `greatest`."""
    return is_integer_from(value, least) and value <= greatest


def check_number(value, least, greatest):
    """Raise an error if the value is not a number from `least` to `greatest`."""
    if not is_integer_within(value, least, greatest):
        raise InvalidNumberError("this number is not within its bounds")


def is_ascending_list(value, greatest):
    """Return whether the value is a strictly ascending list of integers from 0 to `greatest`."""
    # An object of a class derived from list is not exactly a list.
    if type(value) != list:
        return False
    least = 0
    for item in value:
        if not is_integer_within(item, least, greatest):
            return False
        least = item + 1
    return True
