"""Runs of one edition of a report that are led over to another one."""

from whatran.editions import kept_rows, led_counts, why_otherwise
from whatran.records import BY_MARKS, BY_NUMBERS
from whatran.reports import Report, join_reports


def lead_over(report, old, new):
    """A new report in which each run of the old edition that goes on is one of the new edition, too."""
    staying = {run: True for run, _ in to_run(report, old, new)}
    led = join_reports(report, Report())
    for run in report.runs(old):
        if run not in staying:
            _lead_run(report, led, old, new, run)
    return led


def to_run(report, old, new):
    """The list of tuples (name, why) of the runs of the old edition that do not go on in the new one."""
    one = report.program(old)
    other = report.program(new)
    whys = [(run, _why_not(report, old, run, one, other)) for run in report.runs(old)]
    return [(run, why) for run, why in whys if why is not None]


def _why_not(report, edition, run, one, other):
    """Why the run of an edition does not go on from one program to another one."""
    counts = report.counts(edition, run)
    taken = {way: counts[way] for way in counts if counts[way] > 0}
    return why_otherwise(one, other, met=report.met(edition, run), taken=taken, ends=report.ends(edition, run))


def _lead_run(report, led, old, new, run):
    """Tells the run to the led report, as one of the new edition."""
    one = report.program(old)
    other = report.program(new)
    outcome = report.outcome(old, run)
    counts, ends = led_counts(one, other, report.counts(old, run), report.ends(old, run))
    led.add(new, run, (BY_MARKS, outcome, ends, [(way, counts[way]) for way in other.ways()]))
    through = report.through(old, run)
    if through is not None:
        # What goes by a condition has met it, so its row is kept.
        kept = {row: later for row, later in kept_rows(one, other)}
        numbers = [(kept[row], number, through[(row, number)]) for row, number in sorted(through)]
        led.add(new, run, (BY_NUMBERS, outcome, ends, numbers))
