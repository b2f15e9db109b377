"""Totals: how much of an edition its runs met and took."""

from whatran.ratios import fraction

ALL = "all"


def total_rows(report, edition):
    """The list of tuples (name, met, points, taken, ways): of each routine, and of all of them."""
    program = report.program(edition)
    met = report.all_met(edition)
    taken = report.all_taken(edition)
    rows = []
    for name in program.routines():
        points = [point for point in program.points() if program.routine(point[0]) == name]
        ways = [way for way in program.ways() if program.routine(way[0]) == name]
        rows.append((name, _many_in(points, met), len(points), _many_in(ways, taken), len(ways)))
    return rows + [(ALL, len(met), len(program.points()), len(taken), len(program.ways()))]


def share_met(report, edition):
    """The fraction of all points that some run met."""
    return fraction(len(report.all_met(edition)), len(report.program(edition).points()))


def run_rows(report, edition):
    """The list of tuples (run, how many unlike points it met, how many unlike ways it took)."""
    return [_run_row(report, edition, run) for run in report.runs(edition)]


def rarest_points(report, edition):
    """The list of the points that were met by as few runs as any point that was met, rising."""
    many = {point: len(report.who(edition, point)) for point in report.all_met(edition)}
    least = min([many[point] for point in many], default=0)
    return sorted([point for point in many if many[point] == least])


def _many_in(things, table):
    return len([thing for thing in things if thing in table])


def _run_row(report, edition, run):
    counts = report.counts(edition, run)
    taken = [way for way in counts if counts[way] > 0]
    return (run, len(report.met(edition, run)), len(taken))
