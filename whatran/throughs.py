"""Throughs: the ways in which a condition can be gone through, and their numbers."""

from whatran.conditions import NOT_ASKED, SIDES, parts_of
from whatran.errors import NoNumber, NoThrough
from whatran.wholes import is_whole

# What stands where another part to be asked could stand: the condition is settled.
HELD = -1
MISSED = -2


def all_throughs(condition):
    """The list of tuples (through, whether the condition holds then), by number."""
    leads = part_leads(condition)
    many = _ways_on(leads)
    return [_gone_through(leads, many, number) for number in range(many[0])]


def part_worths(condition):
    """For each part a tuple (worth of its 0, worth of its 1)."""
    leads = part_leads(condition)
    return _worths(leads, _ways_on(leads))


def number_of(condition, through):
    """The number of a through of the condition."""
    leads = part_leads(condition)
    if not _is_through(leads, through):
        raise NoThrough("no through of the condition")
    worths = _worths(leads, _ways_on(leads))
    return sum([worths[part][answer] for part, answer in enumerate(through) if answer != NOT_ASKED])


def through_at(condition, number):
    """The through of the condition that has this number."""
    leads = part_leads(condition)
    many = _ways_on(leads)
    if not is_whole(number, 0, many[0] - 1):
        raise NoNumber("no number of a through of the condition")
    through, _ = _gone_through(leads, many, number)
    return through


def part_leads(condition):
    """For each part where its 0 and its 1 lead: the part asked next, HELD or MISSED."""
    # Refuses what is no condition, ahead of the walk.
    parts_of(condition)
    return _leads_from(condition, 0, HELD, MISSED)


def _leads_from(condition, first, held, missed):
    """The leads of a condition whose first part has this number, with what follows it."""
    word = condition[0]
    if word not in SIDES:
        return [(missed, held)]
    if word == "not":
        return _leads_from(condition[1], first, missed, held)
    behind = first + len(parts_of(condition[1]))
    if word == "and":
        leads = _leads_from(condition[1], first, behind, missed)
    else:
        leads = _leads_from(condition[1], first, held, behind)
    return leads + _leads_from(condition[2], behind, held, missed)


def _ways_on(leads):
    """For each part how many ways there are to go on from it till the condition is settled."""
    many = [0 for _ in leads]
    for part in reversed(range(len(leads))):
        many[part] = sum([_ways_from(many, lead) for lead in leads[part]])
    return many


def _ways_from(many, lead):
    return many[lead] if lead >= 0 else 1


def _worths(leads, many):
    return [(0, _ways_from(many, lead[0])) for lead in leads]


def _gone_through(leads, many, number):
    """The through of this number, and whether the condition holds then."""
    answers = [NOT_ASKED for _ in leads]
    at = 0
    left = number
    while at >= 0:
        behind = _ways_from(many, leads[at][0])
        answers[at] = 0 if left < behind else 1
        left -= behind * answers[at]
        at = leads[at][answers[at]]
    return tuple(answers), at == HELD


def _is_through(leads, thing):
    if not isinstance(thing, tuple) or len(thing) != len(leads):
        return False
    if not all([is_whole(answer, 0, NOT_ASKED) for answer in thing]):
        return False
    asked = [False for _ in leads]
    at = 0
    while at >= 0:
        if thing[at] == NOT_ASKED:
            return False
        asked[at] = True
        at = leads[at][thing[at]]
    return all([asked[part] or answer == NOT_ASKED for part, answer in enumerate(thing)])
