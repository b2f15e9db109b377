"""Reports: editions of a program, and what their runs met and took."""

from whatran.errors import Clash, NoEdition, NoName, NoPoint, NoRun
from whatran.names import is_name
from whatran.records import BY_NUMBERS, counts_of
from whatran.sums import point_meets


class Report:
    """What is told of the runs of the editions of a program."""

    def __init__(self):
        # The program of each edition, and of each the dicts of what is told of its runs.
        self._programs = {}
        self._runs = {}
        self._busy = False

    def __eq__(self, other):
        return isinstance(other, Report) and self._programs == other._programs and self._runs == other._runs

    def add_edition(self, name, program):
        """Takes in an edition of this name."""
        if not is_name(name):
            raise NoName("a name is one to eight small letters or figures")
        if name in self._programs and self._programs[name] != program:
            raise Clash(name)
        if name not in self._programs:
            self._programs[name] = program
            self._runs[name] = {}

    def add(self, edition, run, record, *, watch=None):
        """Takes in a run of an edition by its record."""
        program = self.program(edition)
        if not is_name(run):
            raise NoName("a name is one to eight small letters or figures")
        # A watch may itself tell of a run: behind that, this report is busy still.
        before = self._busy
        self._busy = True
        try:
            if watch is not None:
                watch()
            told = _told_by(program, record)
        finally:
            self._busy = before
        self._put_run(edition, run, told)

    def busy(self):
        """Whether a record is looked at."""
        return self._busy

    def editions(self):
        """The list of the names of the editions, in order."""
        return sorted(self._programs)

    def runs(self, edition):
        """The list of the names of the runs of an edition, in order."""
        self._need_edition(edition)
        return sorted(self._runs[edition])

    def program(self, edition):
        """The program of an edition."""
        self._need_edition(edition)
        return self._programs[edition]

    def counts(self, edition, run):
        """How often the run took each way."""
        return _copied(self._told_run(edition, run)["counts"])

    def outcome(self, edition, run):
        """How the run ended."""
        return self._told_run(edition, run)["outcome"]

    def ends(self, edition, run):
        """The points at which the routines of the run stand that have not returned."""
        return self._told_run(edition, run)["ends"]

    def through(self, edition, run):
        """Each (row, number of a through) and how often; None where marks alone tell of the run."""
        through = self._told_run(edition, run)["through"]
        return None if through is None else _copied(through)

    def met(self, edition, run):
        """Each point that the run met, and how often."""
        return _copied(self._told_run(edition, run)["met"])

    def all_met(self, edition):
        """Each point that any run of the edition met, and how often in all."""
        return _added_up([self.met(edition, run) for run in self.runs(edition)])

    def all_taken(self, edition):
        """Each way that any run of the edition took, and how often in all."""
        return _added_up([self.counts(edition, run) for run in self.runs(edition)])

    def who(self, edition, point):
        """The list of the names of the runs that met the point, in order."""
        if not self.program(edition).is_point(point):
            raise NoPoint("no point of the edition's program")
        return [run for run in self.runs(edition) if point in self._runs[edition][run]["met"]]

    def _need_edition(self, edition):
        if not isinstance(edition, str) or edition not in self._programs:
            raise NoEdition(edition)

    def _told_run(self, edition, run):
        self._need_edition(edition)
        if not isinstance(run, str) or run not in self._runs[edition]:
            raise NoRun(run)
        return self._runs[edition][run]

    def _put_run(self, edition, run, told):
        """Puts what is told of a run to what is known of it."""
        runs = self._runs[edition]
        if run in runs and not _are_alike(runs[run], told):
            raise Clash(run)
        if run not in runs or runs[run]["through"] is None:
            runs[run] = told

    def _take_runs(self, other):
        """Takes in all runs of another report, whose editions are here already."""
        for edition in other.editions():
            for run in other.runs(edition):
                self._put_run(edition, run, other._told_run(edition, run))


def join_reports(one, two):
    """A new report with the editions and the runs of both."""
    joined = Report()
    for report in (one, two):
        for name in report.editions():
            joined.add_edition(name, report.program(name))
    joined._take_runs(one)
    joined._take_runs(two)
    return joined


def _told_by(program, record):
    """What a record tells of its run."""
    counts = counts_of(program, record)
    sort, outcome, ends, numbers = record
    meets = point_meets(program, counts, [ends])
    met = {point: meets[point] for point in meets if meets[point] > 0}
    through = None
    if sort == BY_NUMBERS:
        through = {(row, number): many for row, number, many in numbers}
    return {"outcome": outcome, "ends": ends, "counts": counts, "met": met, "through": through}


def _are_alike(one, other):
    """Whether both may be told of one run."""
    if any([one[key] != other[key] for key in ("outcome", "ends", "counts")]):
        return False
    return one["through"] is None or other["through"] is None or one["through"] == other["through"]


def _copied(table):
    return {key: table[key] for key in table}


def _added_up(tables):
    """The sums of the numbers in these dicts; those that are 0 are left out."""
    total = {}
    for table in tables:
        for key in table:
            total[key] = total.get(key, 0) + table[key]
    return {key: total[key] for key in total if total[key] > 0}
