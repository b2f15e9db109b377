"""What the document says of texts, told a second time in another manner: by patterns."""

import re

from tests.plain import fault_in, leads_in, number_in, points_in, routines_of, statements_in, throughs_of
from whatran.errors import NoProgram
from whatran.programs import Program

NUMBER = r"(?:0|[1-9][0-9]{0,59})"
FROM_1 = r"(?:[1-9][0-9]{0,59})"
WAY = rf"(?:{NUMBER}\.(?:0\.on|[0-7]\.(?:yes|no)))"
NAME = r"(?:[a-z0-9]{1,8})"
OUTCOME = r"(?:ended|dry|stopped|spent)"
AT = rf"at(?: {NUMBER}\.0)*"


def wrote(pattern, row):
    return re.fullmatch(pattern, row, re.ASCII) is not None


def point_in(word):
    return tuple(int(number) for number in word.split("."))


def way_in(word):
    row, part, answer = word.split(".")
    return (int(row), int(part), answer)


def rises(keys):
    return all(one < other for one, other in zip(keys, keys[1:]))


def ends_in(row):
    return tuple(point_in(word) for word in row.split(" ")[1:])


def record_in(text):
    """The record of which this is the text; None where it is none."""
    rows = text.split("\n")
    if len(rows) < 2 or not wrote(rf"(?:marks|numbers) {OUTCOME}", rows[0]) or not wrote(AT, rows[1]):
        return None
    sort, outcome = rows[0].split(" ")
    ends = ends_in(rows[1])
    if (outcome == "ended") != (ends == ()):
        return None
    if sort == "marks":
        if not all(wrote(rf"way {WAY} {NUMBER}", row) for row in rows[2:]):
            return None
        numbers = [(way_in(row.split(" ")[1]), int(row.split(" ")[2])) for row in rows[2:]]
    else:
        if not all(wrote(rf"through {NUMBER} {NUMBER} {FROM_1}", row) for row in rows[2:]):
            return None
        numbers = [tuple(int(word) for word in row.split(" ")[1:]) for row in rows[2:]]
    return (sort, outcome, ends, numbers) if rises([entry[:-1] for entry in numbers]) else None


def is_report(text):
    """Whether this is the text of a report."""
    rows = text.split("\n") if text else []
    names = []
    while rows:
        if not wrote(rf"edition {NAME} {NUMBER}", rows[0]):
            return False
        _, name, many = rows.pop(0).split(" ")
        names.append(name)
        program, rows = rows[:int(many)], rows[int(many):]
        try:
            Program("\n".join(program))
        except NoProgram:
            return False
        runs = []
        if len(program) != int(many) or not take_runs("\n".join(program), rows, runs):
            return False
        if not rises(runs):
            return False
    return rises(names)


def take_runs(program, rows, runs):
    """Takes the rows of runs off the rows, and their names into the list; whether they are right."""
    while rows and rows[0].startswith("run"):
        head = rows.pop(0)
        own = []
        while rows and not rows[0].startswith(("run", "edition")):
            own.append(rows.pop(0))
        if not wrote(rf"run {NAME} {OUTCOME}", head) or not own:
            return False
        runs.append(head.split(" ")[1])
        if not is_run(program, head.split(" ")[2], own):
            return False
    return True


def is_run(program, outcome, rows):
    at = rows.pop(0)
    ways = [row for row in rows if row.startswith("way")]
    throughs = [row for row in rows if row.startswith("through")]
    if not wrote(AT, at) or rows != ways + throughs:
        return False
    if not all(wrote(rf"way {WAY} {FROM_1}", row) for row in ways):
        return False
    taken = {way_in(row.split(" ")[1]): int(row.split(" ")[2]) for row in ways}
    if len(taken) != len(ways) or not rises(list(taken)) or set(taken) - set(leads_in(program)):
        return False
    ends = ends_in(at)
    if not are_ends(program, outcome, ends):
        return False
    counts = {way: taken.get(way, 0) for way in leads_in(program)}
    if fault_in(program, counts, [ends]) is not None:
        return False
    return not throughs or come_to(program, counts, [] if throughs == ["through"] else throughs)


def homes_in(program):
    """For each row the name of the routine in which it stands."""
    return {row: name for name, one in routines_of(program).items() for row in range(one.row, one.close + 1)}


def are_ends(program, outcome, ends):
    """Whether these are the ends of a run, and the outcome goes with them."""
    if ends == ():
        return outcome == "ended"
    lines = program.split("\n")
    homes = homes_in(program)
    if set(ends) - set(points_in(program)) or homes[ends[0][0]] != "main" or ends[-1] == (len(lines) - 1, 0):
        return False
    if any(lines[one[0]] != f"call {homes[other[0]]}" for one, other in zip(ends, ends[1:])):
        return False
    last = lines[ends[-1][0]].split(" ")[0]
    return {"stop": outcome == "stopped", "ask": outcome in ("dry", "spent")}.get(last, outcome == "spent")


def come_to(program, counts, throughs):
    """Whether these rows are throughs that come to the counts of the conditions' ways."""
    if not all(wrote(rf"through {NUMBER} {NUMBER} {FROM_1}", row) for row in throughs):
        return False
    entries = [tuple(int(word) for word in row.split(" ")[1:]) for row in throughs]
    conditions = {one.row: one.condition for routine in routines_of(program).values()
                  for one in statements_in(routine.body) if one.condition is not None}
    known = {way: 0 for way in counts if way[2] != "on"}
    for row, number, many in entries:
        by_number = {} if row not in conditions else {
            number_in(conditions[row], through): through for through in throughs_of(conditions[row])}
        if number not in by_number:
            return False
        for part, answer in enumerate(by_number[number]):
            if answer != 2:
                known[(row, part, "yes" if answer else "no")] += many
    return rises([entry[:2] for entry in entries]) and all(known[way] == counts[way] for way in known)
