"""What the document says of stands, told a second time in another manner.

The stands of runs are read off a machine that runs; what can come behind a stand is told by the
nested statements of the text.
"""

import itertools

from tests.plain import PLACES, Machine, all_parts, leads_in, routines_of, statements_in, through_with, worth_in


class Watched(Machine):
    """A machine that notes each stand: the calls that wait and the point that is met next, and the values."""

    def __init__(self, text, inputs, fuel=5000):
        self.stands = []
        super().__init__(text, inputs, fuel)

    def note(self, point):
        self.stands.append((tuple(self.stack[:-1]) + (point,), self.now()))

    def now(self):
        return tuple(self.values[place] for place in PLACES)

    def meet(self, row):
        self.note((row, 0))
        super().meet(row)

    def holds(self, one):
        held = super().holds(one)
        through, _ = through_with(one.condition, self.now())
        for part, answer in enumerate(through):
            if part and answer != 2:
                self.note((one.row, part))
        return held


def statement_at(text, row):
    """The statement of a row, or the routine that it ends."""
    for routine in routines_of(text).values():
        if routine.close == row:
            return "end", routine
        for one in [routine, *statements_in(routine.body)]:
            if one.row == row:
                return one.word, one
    raise KeyError(row)


def behind_in(text, stand):
    """The list of the stands that can come behind this one, rising."""
    points, values = stand
    row, part = points[-1]
    word, one = statement_at(text, row)
    leads = leads_in(text)
    on = points[:-1] + (leads.get((row, part, "on")),)
    if word == "stop" or (word == "end" and len(points) == 1):
        return []
    if word == "end":
        return [(points[:-2] + (leads[points[-2] + ("on",)],), values)]
    if word == "call":
        return [(points + ((routines_of(text)[one.words[1]].row, 0),), values)]
    if word in ("if", "while"):
        sign, left, right = all_parts(one.condition)[part]
        one_worth, other = worth_in(left, values), worth_in(right, values)
        held = one_worth == other if sign == "=" else one_worth < other
        return [(points[:-1] + (leads[(row, part, "yes" if held else "no")],), values)]
    return sorted((on, after) for after in values_behind(one.words, values))


def values_behind(words, values):
    if words[0] == "ask":
        return {changed_values(values, words[1], number) for number in range(4)}
    if words[0] == "set":
        number = worth_in(words[2], values)
        if len(words) == 5:
            number += worth_in(words[4], values) if words[3] == "+" else 4 - worth_in(words[4], values)
        return {changed_values(values, words[1], number % 4)}
    return {values}


def changed_values(values, place, number):
    at = PLACES.index(place)
    return values[:at] + (number,) + values[at + 1:]


def first_stand(text):
    return (((routines_of(text)["main"].row, 0),), (0, 0, 0))


def closed_from(text, stands, most=None):
    """All stands that can come from these; None where there are more than so many."""
    found = set(stands)
    left = list(stands)
    while left:
        for other in behind_in(text, left.pop()):
            if other not in found:
                found.add(other)
                left.append(other)
        if most is not None and len(found) > most:
            return None
    return found


def all_inputs(longest):
    """All lists of at most so many inputs, the short ones first."""
    for many in range(longest + 1):
        for inputs in itertools.product(range(4), repeat=many):
            yield list(inputs)


def some_stands(text, chance, many):
    """So many stands of a program, also such as no run has."""
    routines = routines_of(text)
    calls = {name: [] for name in routines}
    for name, routine in routines.items():
        calls[name] = [one for one in statements_in(routine.body) if one.word == "call"]
    found = []
    while len(found) < many:
        name, points = "main", ()
        while calls[name] and chance.random() < 0.6:
            call = chance.choice(calls[name])
            points += ((call.row, 0),)
            name = call.words[1]
        routine = routines[name]
        last = [(routine.row, 0), (routine.close, 0)]
        for one in statements_in(routine.body):
            last += [(one.row, part) for part in range(len(all_parts(one.condition)) if one.condition else 1)]
        found.append((points + (chance.choice(last),), tuple(chance.randint(0, 3) for _ in PLACES)))
    return found
