"""Rows of things that add up to 0, solved in whole numbers for some of these things."""

from math import gcd


def solve(rows, things):
    """The rows, each a dict with how often each thing goes into it, solved for these things.

    Told is a dict with a row for each thing for which one can be solved: it stands in this row
    alone. A thing is left out where all rows in which it stands are used up by those ahead of it,
    so the rows never tell it; those told are the first ones, in this order, that can be told.
    """
    left = list(rows)
    solved = {}
    for thing in things:
        # A short row makes the others grow least.
        having = [(len(row), at) for at, row in enumerate(left) if thing in row]
        if not having:
            continue
        chosen = left.pop(min(having)[1])
        left = [_without(row, thing, chosen) for row in left]
        solved = {other: _without(solved[other], thing, chosen) for other in solved}
        solved[thing] = chosen
    return solved


def _without(row, thing, chosen):
    """The row with so much of the chosen one taken off that the thing stands in it no more."""
    if thing not in row:
        return row
    common = gcd(row[thing], chosen[thing])
    times = chosen[thing] // common
    less = row[thing] // common
    mixed = {other: row[other] * times for other in row}
    for other in chosen:
        mixed[other] = mixed.get(other, 0) - chosen[other] * less
    return _lowered(mixed)


def _lowered(row):
    """The row without zeros, in the least whole numbers."""
    common = 0
    for thing in row:
        common = gcd(common, row[thing])
    return {thing: row[thing] // common for thing in row if row[thing] != 0}
