"""Names and integers, as the whole package knows them."""

LONGEST_NAME = 8


def is_name(thing):
    """Return whether an object is a name."""
    if not isinstance(thing, str) or not 1 <= len(thing) <= LONGEST_NAME:
        return False
    return all(["a" <= letter <= "z" for letter in thing])


def is_number(thing, low, high):
    """Return whether an object is an integer from low to high (None: from low on)."""
    # True and False are ints for Python, but no integers for the document.
    if not isinstance(thing, int) or isinstance(thing, bool):
        return False
    return low <= thing and (high is None or thing <= high)
