"""What several files ask of numbers."""


def is_integer(number):
    """Returns whether number is an integer; a boolean is none."""
    return isinstance(number, int) and not isinstance(number, bool)


def is_within(number, low, high):
    """Returns whether number is an integer from low to high."""
    return is_integer(number) and low <= number <= high
