"""Checks of the numbers that callers pass."""

from canonvoices.errors import InvalidNumber

# The greatest beat that callers ask for, and the greatest number of a clash.
GREATEST = 10 ** 18


def is_number(value, low, high):
    """Tell whether a value is an integer from low to high."""
    # Python takes True and False for integers, the package does not.
    return isinstance(value, int) and not isinstance(value, bool) and low <= value <= high


def check_number(value, low, high):
    """Raise InvalidNumber unless a value is an integer from low to high."""
    if not is_number(value, low, high):
        # The value stays out of the message: Python refuses to write very long integers.
        raise InvalidNumber(f"not an integer from {low} to {high}")
