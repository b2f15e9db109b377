"""Stands: where runs can stand, whatever their inputs are, and what no run reaches."""

from whatran.blocks import MAIN
from whatran.conditions import is_held, is_values, parts_of
from whatran.errors import NoPoint, NoStand
from whatran.flow import ANSWERS, ON
from whatran.steps import FIRST_VALUES, ROUND, put, term_worth
from whatran.sums import is_called_down


def next_stands(program, stand):
    """The list of the stands that can come behind this one, rising."""
    _need_stand(program, stand)
    return _behind(program, stand)


def all_stands(program):
    """The list of all stands that can come, rising."""
    return sorted(_walked(program))


def moat_fault(program, stands):
    """The first stand that shows that the list is not closed; None where it is."""
    if not isinstance(stands, list):
        raise NoStand("no list of stands")
    for stand in stands:
        _need_stand(program, stand)
    there = {stand: True for stand in stands}
    first = _first_stand(program)
    if first not in there:
        return first
    for stand in stands:
        if any([other not in there for other in _behind(program, stand)]):
            return stand
    return None


def reachable_points(program):
    """The list of the points that a run with some inputs meets, rising."""
    return sorted({points[-1]: True for points, _ in _walked(program)})


def inputs_to(program, point):
    """A list of as few inputs as a run needs to meet the point; None where no run meets it."""
    if not program.is_point(point):
        raise NoPoint("no point of the program")
    came = _walked(program)
    meeting = [stand for stand in came if stand[0][-1] == point]
    if not meeting:
        return None
    # Those with fewer inputs come first.
    before, number = came[meeting[0]]
    inputs = []
    while before is not None:
        if number is not None:
            inputs.append(number)
        before, number = came[before]
    return inputs[::-1]


def _need_stand(program, thing):
    if not _is_stand(program, thing):
        raise NoStand("no stand of the program")


def _is_stand(program, thing):
    if not isinstance(thing, tuple) or len(thing) != 2:
        return False
    points, values = thing
    if not isinstance(points, tuple) or points == () or not is_values(values):
        return False
    return all([program.is_point(point) for point in points]) and is_called_down(program, points)


def _first_stand(program):
    return ((program.begin(MAIN),), FIRST_VALUES)


def _behind(program, stand):
    """The list of the stands that can come behind this one, rising."""
    points, values = stand
    row, part = points[-1]
    word = program.word(row)
    if word in ("if", "while"):
        asked = parts_of(program.condition(row))[part]
        answer = ANSWERS[1 if is_held(asked, values) else 0]
        return [_led(program, points, (row, part, answer), values)]
    if word == "call":
        return [(points + (program.begin(program.called(row)),), values)]
    if word == "end" and len(points) > 1:
        return [_led(program, points[:-1], (points[-2][0], 0, ON), values)]
    if word in ("end", "stop"):
        return []
    words = program.rows()[row].split(" ")
    return [_led(program, points, (row, 0, ON), after) for after in _values_behind(words, values)]


def _led(program, points, way, values):
    """The stand to which the way of the last point leads."""
    return (points[:-1] + (program.leads(way),), values)


def _values_behind(words, values):
    """The list of the values that can stand behind a row with these words, rising."""
    if words[0] == "set":
        return [put(values, words[1], term_worth(words[2:], values))]
    if words[0] == "ask":
        return [put(values, words[1], number) for number in range(ROUND)]
    return [values]


def _walked(program):
    """For each stand that can come a tuple (the stand ahead of it, the input between or None).

    They are told by the number of inputs with which they can come: those with fewer come first.
    """
    first = _first_stand(program)
    came = {first: (None, None)}
    layer = [first]
    while layer:
        asking = _walk_unasked(program, layer, came)
        layer = []
        for stand in asking:
            for number, other in enumerate(_behind(program, stand)):
                if other not in came:
                    came[other] = (stand, number)
                    layer.append(other)
    return came


def _walk_unasked(program, layer, came):
    """Goes on from these stands as far as no input is taken; the list of the stands that take one."""
    asking = []
    found = list(layer)
    at = 0
    while at < len(found):
        stand = found[at]
        at += 1
        if program.word(stand[0][-1][0]) == "ask":
            asking.append(stand)
            continue
        for other in _behind(program, stand):
            if other not in came:
                came[other] = (stand, None)
                found.append(other)
    return asking
