"""Fewest runs that meet all that was met, and papers which show that no fewer do."""

from whatran.errors import NoNumber
from whatran.wholes import is_whole


def fewest_runs(report, edition):
    """A tuple of the names of as few runs as meet all that was met, and the paper of that."""
    meeting = _meeting(report, edition)
    many = 0
    paper = None
    names, refuted = _sought(meeting, many, [])
    while names is None:
        many += 1
        paper = refuted
        names, refuted = _sought(meeting, many, [])
    return sorted(names), paper


def paper_fault(report, edition, many, paper):
    """None where the paper shows that no so many runs meet all; else the runs taken where it does not."""
    meeting = _meeting(report, edition)
    if not is_whole(many, 0, None):
        raise NoNumber("how many is a whole number from 0 on")
    return _fault(report.program(edition), meeting, many, paper, ())


def _meeting(report, edition):
    """For each point that was met the list of the runs that met it, in order."""
    return {point: report.who(edition, point) for point in report.all_met(edition)}


def _missed(meeting, taken):
    """The list of the points that none of the runs taken met."""
    return [point for point in meeting if not any([run in taken for run in meeting[point]])]


def _sought(meeting, many, taken):
    """At most so many runs, those taken among them, that meet all, and no paper; or None and a paper."""
    missed = _missed(meeting, taken)
    if not missed:
        return taken, None
    if len(taken) == many:
        return None, None
    # The point that the fewest runs met makes the paper least.
    _, point = min([(len(meeting[one]), one) for one in missed])
    rows = []
    for run in meeting[point]:
        names, paper = _sought(meeting, many, taken + [run])
        if names is not None:
            return names, None
        rows.append((run, paper))
    return None, (point, rows)


def _fault(program, meeting, many, paper, taken):
    """The runs taken at the first place where the paper is none; None where there is no such place."""
    if not _is_right_here(program, meeting, many, paper, taken):
        return taken
    if paper is None:
        return None
    for run, inner in paper[1]:
        fault = _fault(program, meeting, many, inner, taken + (run,))
        if fault is not None:
            return fault
    return None


def _is_right_here(program, meeting, many, paper, taken):
    """Whether the paper is one, whatever the papers within it are."""
    if len(taken) == many:
        return paper is None and _missed(meeting, taken) != []
    if not isinstance(paper, tuple) or len(paper) != 2:
        return False
    point, rows = paper
    if not program.is_point(point) or point not in _missed(meeting, taken) or not isinstance(rows, list):
        return False
    return all([_is_named(row) for row in rows]) and [row[0] for row in rows] == meeting[point]


def _is_named(thing):
    return isinstance(thing, tuple) and len(thing) == 2 and isinstance(thing[0], str)
