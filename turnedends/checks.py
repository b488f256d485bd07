"""What several files ask of numbers."""


def is_within(number, low, high):
    """Returns whether number is an integer from low to high; a boolean is none."""
    return isinstance(number, int) and not isinstance(number, bool) and low <= number <= high
