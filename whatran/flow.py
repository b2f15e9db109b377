"""The points of a program's rows, and the ways from point to point."""

from whatran.conditions import parts_of
from whatran.throughs import HELD, MISSED, part_leads

ON = "on"
# The words of the ways of a part, by what it answers.
ANSWERS = ("no", "yes")
STEPS = ("def", "set", "ask", "tell", "call")


def points_of(blocks):
    """The list of all points, rising."""
    rows = range(len(blocks.words))
    return [(row, part) for row in rows for part in range(_parts_in(blocks, row))]


def leads_of(blocks):
    """The point to which each way leads; the ways rise."""
    arrivals = _arrivals(blocks)
    # They rise as they are put in: by row, by part, and "no" ahead of "yes".
    leads = {}
    for row, words in enumerate(blocks.words):
        if row in blocks.conditions:
            _lead_condition(blocks, row, arrivals, leads)
        elif words[0] in STEPS:
            leads[(row, 0, ON)] = arrivals[row + 1]
    return leads


def _parts_in(blocks, row):
    """How many points the row has."""
    word = blocks.words[row][0]
    if row in blocks.conditions:
        return len(parts_of(blocks.conditions[row]))
    if word == "else":
        return 0
    if word == "end":
        return 1 if blocks.words[blocks.opens[row]][0] == "def" else 0
    return 1


def _arrivals(blocks):
    """For each row the point at which a run comes to stand that goes on to it from above."""
    arrivals = [(row, 0) for row in range(len(blocks.words))]
    for row in reversed(range(len(arrivals))):
        if row not in blocks.opens:
            continue
        opening = blocks.opens[row]
        word = blocks.words[opening][0]
        if word == "if":
            # From an else, too, it goes on behind the end.
            arrivals[row] = arrivals[blocks.closes[opening] + 1]
        elif word == "while":
            arrivals[row] = (opening, 0)
    return arrivals


def _lead_condition(blocks, row, arrivals, leads):
    """Puts the leads of the parts of an if or while to the others."""
    behind = blocks.elses.get(row, blocks.closes[row])
    settled = {HELD: arrivals[row + 1], MISSED: arrivals[behind + 1]}
    for part, pair in enumerate(part_leads(blocks.conditions[row])):
        for answer, lead in enumerate(pair):
            leads[(row, part, ANSWERS[answer])] = settled[lead] if lead in settled else (row, lead)
