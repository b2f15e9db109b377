"""Records: what is told of a run by marks, or by the numbers of throughs, and its counts."""

from whatran.conditions import NOT_ASKED
from whatran.errors import NoRecord, NoSums, NotEnough
from whatran.flow import ANSWERS, ON
from whatran.marking import Reckoner, hidden_change
from whatran.sums import is_end
from whatran.throughs import all_throughs, through_at
from whatran.wholes import is_whole

BY_MARKS = "marks"
BY_NUMBERS = "numbers"


def record_by_marks(program, seen, marks):
    """The record of a run by the numbers of these marks."""
    change = hidden_change(program, marks)
    if change is not None:
        raise NotEnough(change)
    taken = seen.taken()
    numbers = [(way, taken.get(way, 0)) for way in sorted(marks)]
    return (BY_MARKS, seen.outcome(), seen.ends(), numbers)


def record_by_numbers(program, seen):
    """The record of a run by the numbers of the throughs of its conditions."""
    through = seen.through()
    numbers = [(row, number, through[(row, number)]) for row, number in sorted(through)]
    return (BY_NUMBERS, seen.outcome(), seen.ends(), numbers)


def counts_of(program, record):
    """The counts of the run of which this is the record."""
    if not _is_formed(program, record):
        raise NoRecord("no record of a run of the program")
    sort, _, ends, numbers = record
    known = _known_by_marks(numbers) if sort == BY_MARKS else _known_by_numbers(program, numbers)
    try:
        counts = Reckoner(program, list(known)).reckoned(known, [ends])
    except NotEnough:
        raise NoRecord("the record's marks are not enough")
    except NoSums:
        raise NoRecord("no counts keep the sums with the record")
    if min([counts[way] for way in counts]) < 0:
        raise NoRecord("no counts from 0 on keep the sums with the record")
    return counts


def _known_by_marks(numbers):
    return {way: many for way, many in numbers}


def _known_by_numbers(program, numbers):
    """How often each way of each condition was taken."""
    known = {way: 0 for way in program.ways() if way[2] != ON}
    for row, number, many in numbers:
        for part, answer in enumerate(through_at(program.condition(row), number)):
            if answer != NOT_ASKED:
                known[(row, part, ANSWERS[answer])] += many
    return known


def _is_formed(program, thing):
    """Whether the thing is built as a record of the program, whatever its numbers come to."""
    if not isinstance(thing, tuple) or len(thing) != 4:
        return False
    sort, outcome, ends, numbers = thing
    if not is_end(program, ends) or not _goes_with(program, outcome, ends):
        return False
    if not isinstance(sort, str) or not isinstance(numbers, list):
        return False
    if sort == BY_MARKS:
        return all([_is_mark_entry(program, entry) for entry in numbers]) and rises(numbers)
    if sort == BY_NUMBERS:
        return all([_is_number_entry(program, entry) for entry in numbers]) and rises(numbers)
    return False


def _goes_with(program, outcome, ends):
    """Whether a run with these ends can have this outcome."""
    if not isinstance(outcome, str):
        return False
    if ends == ():
        return outcome == "ended"
    last = program.word(ends[-1][0])
    if last == "stop":
        return outcome == "stopped"
    return outcome == "spent" or (outcome == "dry" and last == "ask")


def _is_mark_entry(program, thing):
    if not isinstance(thing, tuple) or len(thing) != 2:
        return False
    return program.is_way(thing[0]) and is_whole(thing[1], 0, None)


def _is_number_entry(program, thing):
    if not isinstance(thing, tuple) or len(thing) != 3:
        return False
    row, number, many = thing
    if not is_whole(row, 0, len(program) - 1) or program.word(row) not in ("if", "while"):
        return False
    throughs = all_throughs(program.condition(row))
    return is_whole(number, 0, len(throughs) - 1) and is_whole(many, 1, None)


def rises(numbers):
    """Whether the entries rise by all that stands ahead of how often, each once."""
    keys = [entry[:-1] for entry in numbers]
    return all([one < other for one, other in zip(keys[:-1], keys[1:])])
