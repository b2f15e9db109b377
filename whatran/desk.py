"""The desk: rows are told to it, and it answers by texts."""

from whatran.choices import choice_words
from whatran.conditions import NUMBERS
from whatran.errors import NoEdition, NoName, NoPoint, NoProgram, NoRow, NoText
from whatran.fewruns import fewest_runs
from whatran.leading import lead_over, to_run
from whatran.marking import best_marks
from whatran.names import is_name
from whatran.programs import Program
from whatran.reaching import inputs_to, reachable_points
from whatran.records import record_by_marks, record_by_numbers
from whatran.reports import Report, join_reports
from whatran.runs import run_program
from whatran.texts import point_text, read_number, read_point, read_record, read_report, report_text, way_text
from whatran.totals import total_rows

DONE = "ok"
NONE = "-"
NEVER = "never"


class Desk:
    """Keeps a report, and answers rows about it."""

    def __init__(self):
        self._report = Report()

    def say(self, row):
        """Does what the row says; the answer is a text."""
        words = _words_of(row)
        word = words[0]
        things = []
        for kind, told in zip(KINDS[word], words[1:]):
            reader = READERS[kind]
            things.append(reader(self._report, things, told))
        deed = DEEDS[word]
        self._report, answer = deed(self._report, things)
        return answer


def _words_of(row):
    """The words of a row of the desk; a text to its end is one word."""
    if not isinstance(row, str) or "\n" in row:
        raise NoRow("no row")
    words = row.split(" ")
    if words[0] not in KINDS:
        raise NoRow("no row begins with this word")
    kinds = KINDS[words[0]]
    many = len(kinds)
    if len(words) > many and many > 0 and kinds[many - 1] in TEXTS:
        words = words[:many] + [" ".join(words[many:])]
    if len(words) != 1 + many:
        raise NoRow("too few words, or too many")
    return words


def _read_name(report, things, word):
    if not is_name(word):
        raise NoName("a name is one to eight small letters or figures")
    return word


def _read_edition(report, things, word):
    _read_name(report, things, word)
    if word not in report.editions():
        raise NoEdition(word)
    return word


def _read_fuel(report, things, word):
    return read_number(word)


def _read_inputs(report, things, word):
    if word == NONE:
        return []
    if word == "" or not all([sign in NUMBERS for sign in word]):
        raise NoText("inputs are written by figures from 0 to 3")
    return [NUMBERS.index(sign) for sign in word]


def _read_point_of(report, things, word):
    point = read_point(word)
    if not report.program(things[0]).is_point(point):
        raise NoText("no point of the edition")
    return point


def _read_row_of(report, things, word):
    row = read_number(word)
    try:
        report.program(things[0]).condition(row)
    except NoPoint:
        raise NoText("no row of the edition with a condition")
    return row


def _read_program(report, things, word):
    try:
        return Program(_unparted(word))
    except NoProgram:
        raise NoText("no program")


def _read_record_of(report, things, word):
    return read_record(_unparted(word))


def _read_whole_report(report, things, word):
    if word == NONE:
        return Report()
    # The text without a sign is that of the empty report, but it is written otherwise here.
    if word == "":
        raise NoText("no report")
    return read_report(_unparted(word))


def _unparted(word):
    """The text that stands in one row."""
    return word.replace("; ", "\n")


def _parted(rows):
    """The rows as they stand in one row."""
    return "; ".join(rows) if rows else NONE


def _listed(words):
    """The words, parted by blanks."""
    return " ".join(words) if words else NONE


def _points_listed(points):
    return _listed([point_text(point) for point in points])


def _figures(numbers):
    return "".join([str(number) for number in numbers]) if numbers else NONE


def _add_edition(report, things):
    name, program = things
    report.add_edition(name, program)
    return report, DONE


def _tell_marks(report, things):
    marks = best_marks(report.program(things[0]))
    return report, _listed([way_text(way) for way in marks])


def _run_by_marks(report, things):
    edition, run, fuel, inputs = things
    program = report.program(edition)
    seen = run_program(program, inputs, fuel=fuel)
    report.add(edition, run, record_by_marks(program, seen, best_marks(program)))
    return report, _ended(seen)


def _run_by_numbers(report, things):
    edition, run, fuel, inputs = things
    program = report.program(edition)
    seen = run_program(program, inputs, fuel=fuel)
    report.add(edition, run, record_by_numbers(program, seen))
    return report, _ended(seen)


def _ended(seen):
    """How a run ended, and what it told."""
    return f"{seen.outcome()} {_figures(seen.told())}"


def _take_record(report, things):
    edition, run, record = things
    report.add(edition, run, record)
    return report, DONE


def _lead(report, things):
    old, new = things
    names = [run for run, _ in to_run(report, old, new)]
    return lead_over(report, old, new), _listed(names)


def _tell_met(report, things):
    met = report.all_met(things[0])
    rows = [f"{point_text(point)} {met[point]}" for point in sorted(met)]
    return report, _parted(rows)


def _tell_who(report, things):
    edition, point = things
    return report, _listed(report.who(edition, point))


def _tell_unmet(report, things):
    met = report.all_met(things[0])
    points = report.program(things[0]).points()
    return report, _points_listed([point for point in points if point not in met])


def _tell_never(report, things):
    program = report.program(things[0])
    reached = {point: True for point in reachable_points(program)}
    return report, _points_listed([point for point in program.points() if point not in reached])


def _tell_inputs(report, things):
    edition, point = things
    inputs = inputs_to(report.program(edition), point)
    return report, NEVER if inputs is None else _figures(inputs)


def _tell_few(report, things):
    names, _ = fewest_runs(report, things[0])
    return report, _listed(names)


def _tell_total(report, things):
    return report, _parted([" ".join([str(part) for part in row]) for row in total_rows(report, things[0])])


def _tell_choices(report, things):
    edition, row = things
    return report, _listed(choice_words(report, edition, row))


def _tell_text(report, things):
    text = report_text(report)
    return report, _parted(text.split("\n")) if text != "" else NONE


def _join(report, things):
    return join_reports(report, things[0]), DONE


# What the words of a row are, behind its first word.
KINDS = {
    "edition": ("name", "program"), "marks": ("edition",), "run": ("edition", "name", "fuel", "inputs"),
    "look": ("edition", "name", "fuel", "inputs"), "took": ("edition", "name", "record"),
    "lead": ("edition", "edition"), "met": ("edition",), "who": ("edition", "point"), "open": ("edition",),
    "never": ("edition",), "reach": ("edition", "point"), "few": ("edition",), "total": ("edition",),
    "choices": ("edition", "row"), "text": (), "join": ("report",),
}
# The words that go on to the end of the row.
TEXTS = ("program", "record", "report")
# Each is told the report, what the words ahead are read as, and the word.
READERS = {
    "name": _read_name, "edition": _read_edition, "fuel": _read_fuel, "inputs": _read_inputs,
    "point": _read_point_of, "row": _read_row_of, "program": _read_program, "record": _read_record_of,
    "report": _read_whole_report,
}
# Each is told the report and what the words are read as, and tells the report behind it and the answer.
DEEDS = {
    "edition": _add_edition, "marks": _tell_marks, "run": _run_by_marks, "look": _run_by_numbers,
    "took": _take_record, "lead": _lead, "met": _tell_met, "who": _tell_who, "open": _tell_unmet,
    "never": _tell_never, "reach": _tell_inputs, "few": _tell_few, "total": _tell_total,
    "choices": _tell_choices, "text": _tell_text, "join": _join,
}
