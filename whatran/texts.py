"""Texts: how points, ways, records and reports are written, and read again."""

from whatran.errors import Clash, NoName, NoProgram, NoRecord, NoText
from whatran.flow import ANSWERS, ON
from whatran.names import FIGURES
from whatran.programs import Program
from whatran.records import BY_MARKS, BY_NUMBERS, rises
from whatran.reports import Report
from whatran.runs import OUTCOMES

MOST_FIGURES = 60
LAST_PART = 7
EDITION = "edition"
RUN = "run"
AT = "at"
WAY = "way"
THROUGH = "through"


def point_text(point):
    """The text of a point."""
    row, part = point
    return f"{row}.{part}"


def way_text(way):
    """The text of a way."""
    row, part, word = way
    return f"{row}.{part}.{word}"


def record_text(record):
    """The text of a record."""
    sort, outcome, ends, numbers = record
    rows = [f"{sort} {outcome}", _at_row(ends)]
    rows += _way_rows(numbers) if sort == BY_MARKS else _through_rows(numbers)
    return "\n".join(rows)


def read_record(text):
    """The record of which this is the text."""
    rows = [line.split(" ") for line in _lines_of(text)]
    if len(rows) < 2 or len(rows[0]) != 2:
        raise NoText("a record has a row of two words and a row of its ends")
    sort, outcome = rows[0]
    ends = _read_at(rows[1])
    if outcome not in OUTCOMES or (outcome == "ended") != (ends == ()):
        raise NoText("no outcome that goes with the ends")
    if sort == BY_MARKS:
        numbers = [_read_way_row(words) for words in rows[2:]]
    elif sort == BY_NUMBERS:
        numbers = [_read_through_row(words) for words in rows[2:]]
    else:
        raise NoText("no sort of a record")
    if not rises(numbers):
        raise NoText("what is told in rows rises, each once")
    return (sort, outcome, ends, numbers)


def report_text(report):
    """The text of a report."""
    rows = []
    for edition in report.editions():
        program = report.program(edition)
        rows += [f"{EDITION} {edition} {len(program)}"] + program.rows()
        for run in report.runs(edition):
            rows += _run_rows(report, edition, run)
    return "\n".join(rows)


def read_report(text):
    """The report of which this is the text."""
    lines = _lines_of(text)
    report = Report()
    # The text without a sign is that of the empty report: there no row is read.
    at = 0 if text != "" else len(lines)
    while at < len(lines):
        at = _read_edition(report, lines, at)
    # What stands in another order, is wanting, or stands twice, is written otherwise.
    if report_text(report) != text:
        raise NoText("no text of a report")
    return report


def read_number(text):
    """The whole number from 0 on that is written so, in at most sixty figures."""
    if not 1 <= len(text) <= MOST_FIGURES or not all([sign in FIGURES for sign in text]):
        raise NoText("a number is written by one to sixty figures")
    if text[0] == "0" and text != "0":
        raise NoText("no 0 stands ahead of other figures")
    return int(text)


def read_point(text):
    """The point, of any program, that is written so."""
    pieces = text.split(".")
    if len(pieces) != 2:
        raise NoText("a point is written by two numbers")
    return (read_number(pieces[0]), read_number(pieces[1]))


def _lines_of(text):
    if not isinstance(text, str):
        raise NoText("no text")
    return text.split("\n")


def _at_row(ends):
    return " ".join([AT] + [point_text(point) for point in ends])


def _way_rows(numbers):
    return [f"{WAY} {way_text(way)} {many}" for way, many in numbers]


def _through_rows(numbers):
    return [f"{THROUGH} {row} {number} {many}" for row, number, many in numbers]


def _run_rows(report, edition, run):
    """The rows of a run of a report."""
    rows = [f"{RUN} {run} {report.outcome(edition, run)}", _at_row(report.ends(edition, run))]
    counts = report.counts(edition, run)
    rows += _way_rows([(way, counts[way]) for way in sorted(counts) if counts[way] > 0])
    through = report.through(edition, run)
    if through is None:
        return rows
    told = [(row, number, through[(row, number)]) for row, number in sorted(through)]
    return rows + (_through_rows(told) if told else [THROUGH])


def _read_at(words):
    if words[0] != AT:
        raise NoText("no row of ends")
    ends = tuple([read_point(word) for word in words[1:]])
    if any([part != 0 for _, part in ends]):
        raise NoText("ends are points of part 0")
    return ends


def _read_way_row(words):
    if len(words) != 3 or words[0] != WAY:
        raise NoText("no row of a way")
    return (_read_way(words[1]), read_number(words[2]))


def _read_way(text):
    point, _, word = text.rpartition(".")
    row, part = read_point(point)
    if (word != ON or part != 0) and (word not in ANSWERS or part > LAST_PART):
        raise NoText("no way")
    return (row, part, word)


def _read_through_row(words):
    if len(words) != 4 or words[0] != THROUGH:
        raise NoText("no row of a through")
    row, number, many = [read_number(word) for word in words[1:]]
    if many == 0:
        raise NoText("what is told of went through once or more")
    return (row, number, many)


def _read_edition(report, lines, at):
    """Reads the edition that begins at this row into the report; the row behind it."""
    words = lines[at].split(" ")
    if len(words) != 3 or words[0] != EDITION:
        raise NoText("no row of an edition")
    end = at + 1 + read_number(words[2])
    try:
        report.add_edition(words[1], Program("\n".join(lines[at + 1:end])))
    except (NoName, NoProgram, Clash):
        raise NoText("no edition")
    while end < len(lines) and lines[end].startswith(RUN + " "):
        end = _read_run(report, words[1], lines, end)
    return end


def _read_run(report, edition, lines, at):
    """Reads the run that begins at this row into the report; the row behind it."""
    words = lines[at].split(" ")
    rows = _rows_behind(lines, at)
    if len(words) != 3 or not rows:
        raise NoText("no row of a run, or none of its ends behind it")
    _, run, outcome = words
    ends = _read_at(rows[0])
    taken = {way: many for way, many in [_read_way_row(row) for row in rows if row[0] == WAY]}
    counts = [(way, taken.get(way, 0)) for way in report.program(edition).ways()]
    through = [row for row in rows if row[0] == THROUGH]
    numbers = [] if through == [[THROUGH]] else [_read_through_row(row) for row in through]
    try:
        report.add(edition, run, (BY_MARKS, outcome, ends, counts))
        if through:
            report.add(edition, run, (BY_NUMBERS, outcome, ends, numbers))
    except (NoName, NoRecord, Clash):
        raise NoText("no run of the edition")
    return at + 1 + len(rows)


def _rows_behind(lines, at):
    """The rows, as words, that tell of the run whose first row stands there."""
    rows = []
    for line in lines[at + 1:]:
        words = line.split(" ")
        if words[0] not in (AT, WAY, THROUGH):
            break
        rows.append(words)
    return rows
