"""Questions about values that several modules ask."""


def is_whole(value):
    """Whether a value is an integer."""
    # Python counts True and False among its integers; the document does not.
    return isinstance(value, int) and not isinstance(value, bool)


def is_number(value, low, high):
    """Whether a value is an integer from low to high."""
    return is_whole(value) and low <= value <= high


def are_numbers(value, low, high):
    """Whether a value is a tuple of integers from low to high."""
    if not isinstance(value, tuple):
        return False
    return all([is_number(item, low, high) for item in value])


def is_line(value, high):
    """Whether a value is a tuple of integers from 0 to high that neither begins nor ends with 0."""
    if not are_numbers(value, 0, high):
        return False
    return len(value) == 0 or (value[0] != 0 and value[-1] != 0)
