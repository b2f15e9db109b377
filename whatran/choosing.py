"""Choices: whether throughs of a condition show that a part of it matters."""

from whatran.conditions import NOT_ASKED, asked_parts, parts_of
from whatran.errors import NoNumber, NoThrough
from whatran.steps import ROUND
from whatran.throughs import all_throughs, number_of
from whatran.wholes import is_whole


def shown_by(condition, part, seen):
    """The first two of these throughs that show that the part matters; None where none do."""
    _need_part(condition, part)
    if not isinstance(seen, list):
        raise NoThrough("no list of throughs")
    return _first_showing(condition, part, seen)


def can_show(condition, part):
    """The first two throughs of any values that show that the part matters; None where none do."""
    _need_part(condition, part)
    return _first_showing(condition, part, [asked_parts(condition, values) for values in _all_values()])


def _need_part(condition, part):
    # What is no condition is refused ahead of the part.
    if not is_whole(part, 0, len(parts_of(condition)) - 1):
        raise NoNumber("no number of a part of the condition")


def _all_values():
    numbers = range(ROUND)
    return [(one, other, third) for one in numbers for other in numbers for third in numbers]


def _first_showing(condition, part, seen):
    numbers = sorted({number_of(condition, through): True for through in seen})
    throughs = all_throughs(condition)
    known = [throughs[number] for number in numbers]
    for zero, held in known:
        for one, other in known:
            if zero[part] == 0 and one[part] == 1 and held != other and _is_alike_beside(zero, one, part):
                return (zero, one)
    return None


def _is_alike_beside(one, other, part):
    """Whether no part but this one is asked by both with unlike answers."""
    pairs = list(zip(one, other))
    return all([at == part or NOT_ASKED in pair or pair[0] == pair[1] for at, pair in enumerate(pairs)])
