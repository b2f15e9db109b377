"""Marks: few ways whose numbers tell those of all others."""

from math import lcm

from whatran.errors import NoCounts, NoMarks, NoSums, NotEnough, NoWay, NoWeights
from whatran.ratios import fraction
from whatran.solving import solve
from whatran.sums import end_worths, is_numbers, need_ends, sum_fault, way_sums


def fewest_marks(program):
    """The least number of marks that are enough."""
    return len(best_marks(program))


def best_marks(program, *, weights=None):
    """A list of as few marks as are enough, the sum of whose weights is least."""
    ways = program.ways()
    if weights is not None and not is_numbers(program, weights, ways, 0):
        raise NoWeights("weights are a dict with a number from 0 on for each way")
    # What is solved is no mark: the heavy ways come first, and no choice of one ahead
    # costs more behind it.
    order = ways
    if weights is not None:
        order = [way for _, way in sorted([(-weights[way], way) for way in ways])]
    solved = _solve_for(program, order)
    return [way for way in ways if way not in solved]


def hidden_change(program, marks):
    """A change that is 0 at each of the marks; None where they are enough."""
    others = _others(program, marks)
    return _hidden_in(program, others, _solve_for(program, others))


def is_hidden(program, marks, change):
    """Whether the thing is a change that is 0 at each of the marks."""
    _need_marks(program, marks)
    if not is_numbers(program, change, program.ways(), None):
        return False
    if all([change[way] == 0 for way in change]) or any([change[way] != 0 for way in marks]):
        return False
    return sum_fault(program, change, []) is None


class Reckoner:
    """Reckons the numbers of all ways from those of marks that are enough."""

    def __init__(self, program, marks):
        others = _others(program, marks)
        self._solved = _solve_for(program, others)
        change = _hidden_in(program, others, self._solved)
        if change is not None:
            raise NotEnough(change)
        self._program = program
        self._marks = list(marks)

    def reckoned(self, numbers, ends):
        """The counts that keep the sums with these ends and have these numbers at the marks."""
        if not is_numbers(self._program, numbers, self._marks, None):
            raise NoCounts("numbers are a dict with a whole number for each mark")
        need_ends(self._program, ends)
        known = end_worths(self._program, ends)
        for way in numbers:
            known[way] = numbers[way]
        counts = {way: self._reckoned_way(way, known) for way in self._program.ways()}
        # So it is where counts would not be whole, and where, of more marks than the fewest,
        # the numbers do not go with each other.
        if sum_fault(self._program, counts, ends) is not None:
            raise NoSums("no counts with these numbers keep the sums")
        return counts

    def shares(self, way):
        """For each mark the fraction of its number that goes into the number of the way."""
        if not self._program.is_way(way):
            raise NoWay("no way of the program")
        if way not in self._solved:
            return {mark: fraction(1 if mark == way else 0) for mark in self._marks}
        row = self._solved[way]
        return {mark: fraction(-row.get(mark, 0), row[way]) for mark in self._marks}

    def _reckoned_way(self, way, known):
        if way not in self._solved:
            return known[way]
        row = self._solved[way]
        return -sum([row[thing] * known[thing] for thing in row if thing != way]) // row[way]


def _need_marks(program, marks):
    if not isinstance(marks, list) or not all([program.is_way(way) for way in marks]):
        raise NoMarks("marks are a list of ways")
    if len({way: True for way in marks}) != len(marks):
        raise NoMarks("a mark stands in the list once")


def _others(program, marks):
    """The list of the ways that are no marks."""
    _need_marks(program, marks)
    marked = {way: True for way in marks}
    return [way for way in program.ways() if way not in marked]


def _solve_for(program, ways):
    """The sums solved for these ways; what a point's sum is by the ends stands as that point."""
    sums = way_sums(program)
    rows = []
    for point in sums:
        row = {way: sums[point][way] for way in sums[point]}
        row[point] = -1
        rows.append(row)
    return solve(rows, ways)


def _hidden_in(program, others, solved):
    """A change of the others alone, by what is solved for them; None where all of them are solved."""
    free = [way for way in others if way not in solved]
    if not free:
        return None
    first = free[0]
    moved = [way for way in solved if first in solved[way]]
    step = 1
    for way in moved:
        step = lcm(step, solved[way][way])
    change = {way: 0 for way in program.ways()}
    change[first] = step
    for way in moved:
        change[way] = -solved[way][first] * step // solved[way][way]
    return change
