"""Names: of routines, and of editions and runs."""

LETTERS = "abcdefghijklmnopqrstuvwxyz"
FIGURES = "0123456789"
MOST_SIGNS = 8


def is_routine_name(thing):
    """Whether the thing is a text of one to eight small letters."""
    return _is_made_of(thing, LETTERS)


def is_name(thing):
    """Whether the thing is a text of one to eight small letters or figures."""
    return _is_made_of(thing, LETTERS + FIGURES)


def _is_made_of(thing, signs):
    if not isinstance(thing, str) or not 1 <= len(thing) <= MOST_SIGNS:
        return False
    return all([sign in signs for sign in thing])
