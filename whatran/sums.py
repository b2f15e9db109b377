"""Counts of the ways of a program, and the sums that runs keep."""

from whatran.blocks import MAIN
from whatran.errors import NoCounts, NoEnds
from whatran.flow import ON
from whatran.wholes import is_whole


def sum_fault(program, counts, ends):
    """The least point at which the counts do not keep the sums with these ends, else None."""
    need_counts(program, counts)
    need_ends(program, ends)
    worths = end_worths(program, ends)
    sums = way_sums(program)
    for point in program.points():
        if sum([many * counts[way] for way, many in sums[point].items()]) != worths[point]:
            return point
    return None


def is_numbers(program, thing, ways, low):
    """Whether the thing is a dict with a whole number, not below low, for just these ways."""
    if not isinstance(thing, dict) or len(thing) != len(ways):
        return False
    # A key is looked at itself: (True, 0, "on") is the key (1, 0, "on") for Python.
    if not all([program.is_way(key) and is_whole(thing[key], low, None) for key in thing]):
        return False
    return all([way in thing for way in ways])


def need_counts(program, thing):
    """Refuses what are no counts of the program."""
    if not is_numbers(program, thing, program.ways(), None):
        raise NoCounts("counts are a dict with a whole number for each way")


def is_end(program, thing):
    """Whether the thing is what the ends of one run tell."""
    if not isinstance(thing, tuple):
        return False
    if not all([program.is_point(point) and point[1] == 0 for point in thing]):
        return False
    return thing == () or (is_called_down(program, thing) and thing[-1] != program.close(MAIN))


def is_called_down(program, points):
    """Whether the first point is of main, and each but the last a call of the routine of the next one."""
    homes = [program.routine(point[0]) for point in points]
    if homes[0] != MAIN:
        return False
    return all([_is_call_of(program, point, home) for point, home in zip(points[:-1], homes[1:])])


def _is_call_of(program, point, name):
    return program.word(point[0]) == "call" and program.called(point[0]) == name


def need_ends(program, thing):
    """Refuses what are no ends of the program."""
    if not isinstance(thing, list) or not all([is_end(program, end) for end in thing]):
        raise NoEnds("ends are a list with what the ends of each run tell")


def point_meets(program, counts, ends):
    """How often each point is met, by counts and ends."""
    stands = _stands(program, ends)
    arriving = _arriving(program)
    meets = {}
    for point in program.points():
        if program.word(point[0]) == "def":
            meets[point] = counts[(point[0], 0, ON)] + stands[point]
        else:
            meets[point] = sum([counts[way] for way in arriving[point]])
    return meets


def way_sums(program):
    """For each point how often each way goes into its sum, which end_worths tells."""
    arriving = _arriving(program)
    leaving = _leaving(program)
    sums = {point: _summed(arriving[point], leaving[point]) for point in arriving}
    calls = _calls(program)
    for name in program.routines():
        begin = program.begin(name)
        close = program.close(name)
        # No way leads to a def, and none leaves an end: calls stand for these.
        sums[begin] = _summed(leaving[begin], [way for call in calls[name] for way in arriving[call]])
        sums[close] = _summed(arriving[close], [way for call in calls[name] for way in leaving[call]])
    return sums


def end_worths(program, ends):
    """For each point what its sum is, by the ends alone."""
    worths = _stands(program, ends)
    calls = _calls(program)
    for name in program.routines():
        begin = program.begin(name)
        last = len([end for end in ends if end != () and end[-1] in calls[name]])
        worths[begin] = -worths[begin] - last
    worths[program.begin(MAIN)] += len(ends)
    worths[program.close(MAIN)] = len([end for end in ends if end == ()])
    return worths


def _stands(program, ends):
    """How often each point stands in the ends."""
    stands = {point: 0 for point in program.points()}
    for end in ends:
        for point in end:
            stands[point] += 1
    return stands


def _arriving(program):
    """For each point the list of the ways that lead to it."""
    arriving = {point: [] for point in program.points()}
    for way in program.ways():
        arriving[program.leads(way)].append(way)
    return arriving


def _leaving(program):
    """For each point the list of its own ways."""
    leaving = {point: [] for point in program.points()}
    for way in program.ways():
        leaving[(way[0], way[1])].append(way)
    return leaving


def _calls(program):
    """For each routine the list of the points of its calls."""
    calls = {name: [] for name in program.routines()}
    for row in range(len(program)):
        if program.word(row) == "call":
            calls[program.called(row)].append((row, 0))
    return calls


def _summed(more, less):
    """How often each way stands in more, less how often in less; those with 0 are left out."""
    many = {}
    for way in more:
        many[way] = many.get(way, 0) + 1
    for way in less:
        many[way] = many.get(way, 0) - 1
    return {way: many[way] for way in many if many[way] != 0}
