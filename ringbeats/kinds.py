"""The kinds of values that more than one file of the program asks for."""

MOST_PLAYERS = 8
GREATEST_LEVEL = 100


def is_whole(value, low, high):
    """Return True if the value is an integer from low to high, otherwise False."""
    # Python counts True and False among the integers, the document does not.
    return isinstance(value, int) and not isinstance(value, bool) and low <= value <= high


def is_ascending(value, many):
    """Return True if the value is an ascending tuple of integers from 0 to many - 1, otherwise False."""
    if not isinstance(value, tuple):
        return False
    least = 0
    for item in value:
        if not is_whole(item, least, many - 1):
            return False
        least = item + 1
    return True


def are_whole(value, many, low, high):
    """Return True if the value is a tuple of so many integers from low to high, otherwise False."""
    if not isinstance(value, tuple) or len(value) != many:
        return False
    return all([is_whole(item, low, high) for item in value])


def is_order(value, many):
    """Return True if the value is a tuple that has each integer from 0 to many - 1 once, otherwise False."""
    return are_whole(value, many, 0, many - 1) and len(set(value)) == many
