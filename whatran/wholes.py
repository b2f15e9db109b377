"""Whole numbers."""


def is_whole(thing, low, high):
    """Whether the thing is a whole number from low to high (None: no such bound)."""
    # A truth is an int for Python, but no whole number here.
    if isinstance(thing, bool) or not isinstance(thing, int):
        return False
    return (low is None or low <= thing) and (high is None or thing <= high)
