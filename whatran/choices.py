"""Choices of an edition: which parts of a condition its runs show to matter."""

from whatran.choosing import can_show, shown_by
from whatran.conditions import parts_of
from whatran.throughs import through_at


def choice_words(report, edition, row):
    """For each part of the condition of a row "shown", "open" or "never"."""
    seen = seen_through(report, edition, row)
    condition = report.program(edition).condition(row)
    return [_choice_word(condition, part, seen) for part in range(len(parts_of(condition)))]


def seen_through(report, edition, row):
    """The list of the throughs of the condition of a row that runs saw, by their numbers."""
    condition = report.program(edition).condition(row)
    numbers = {}
    for run in report.runs(edition):
        through = report.through(edition, run)
        # Of a run that was told by marks alone no throughs are known.
        if through is not None:
            for at, number in through:
                if at == row:
                    numbers[number] = True
    return [through_at(condition, number) for number in sorted(numbers)]


def _choice_word(condition, part, seen):
    if shown_by(condition, part, seen) is not None:
        return "shown"
    return "never" if can_show(condition, part) is None else "open"
