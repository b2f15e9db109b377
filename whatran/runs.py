"""Runs: a program is run on inputs, and what it met, took and told is told."""

from whatran.blocks import MAIN
from whatran.conditions import NOT_ASKED, asked_parts, word_worth
from whatran.errors import NoInputs, NoNumber
from whatran.flow import ANSWERS, ON
from whatran.steps import FIRST_VALUES, ROUND, put, term_worth
from whatran.throughs import number_of
from whatran.wholes import is_whole

FUEL = 500
MOST_FUEL = 5000
OUTCOMES = ("ended", "dry", "stopped", "spent")


def run_program(program, inputs, *, fuel=FUEL):
    """What a run of the program on these inputs meets, takes and tells."""
    if not isinstance(inputs, list) or not all([is_whole(number, 0, ROUND - 1) for number in inputs]):
        raise NoInputs("inputs are a list of numbers from 0 to 3")
    if not is_whole(fuel, 1, MOST_FUEL):
        raise NoNumber("fuel is a number from 1 to 5000")
    run = Run(program, list(inputs), fuel)
    while run.ending is None:
        _step(run)
    return Seen(run)


class Run:
    """A run that goes on."""

    def __init__(self, program, inputs, fuel):
        self.source = program
        self.lines = [row.split(" ") for row in program.rows()]
        self.inputs = inputs
        self.used = 0
        self.fuel = fuel
        # The point of part 0 at which it stands, and the rows of the calls that wait.
        self.standing = program.begin(MAIN)
        self.calls = []
        self.places = FIRST_VALUES
        self.said = []
        self.trail = []
        self.gone = {}
        self.settled = {}
        self.ending = None


class Seen:
    """What a run met, took and told."""

    def __init__(self, run):
        self._outcome = run.ending
        self._told = list(run.said)
        self._trail = list(run.trail)
        self._taken = {way: run.gone[way] for way in run.gone}
        self._through = {key: run.settled[key] for key in run.settled}
        self._ends = () if run.ending == "ended" else tuple([(row, 0) for row in run.calls] + [run.standing])
        self._asked = run.used
        self._last = run.places

    def outcome(self):
        """How the run ended: "ended", "dry", "stopped" or "spent"."""
        return self._outcome

    def told(self):
        """The list of the numbers told."""
        return list(self._told)

    def met(self):
        """Each point that was met, and how often."""
        many = {}
        for point in self._trail:
            many[point] = many.get(point, 0) + 1
        return many

    def taken(self):
        """Each way that was taken, and how often."""
        return {way: self._taken[way] for way in self._taken}

    def through(self):
        """Each (row, number of a through) by which a condition was settled, and how often."""
        return {key: self._through[key] for key in self._through}

    def ends(self):
        """The points at which the routines stand that have not returned; () where it ended."""
        return self._ends

    def asked(self):
        """How many of the inputs were taken."""
        return self._asked

    def points(self):
        """The list of all points, in the order in which they were met."""
        return list(self._trail)

    def last_values(self):
        """The values at the end."""
        return self._last


def _step(run):
    """Meets a point of part 0, does what stands there, and goes on if there is fuel."""
    row = run.standing[0]
    run.trail.append(run.standing)
    run.fuel -= 1
    _do(run, run.lines[row])
    # What ends the run by itself comes ahead of the want of fuel.
    if run.ending is None and run.fuel == 0:
        run.ending = "spent"
    if run.ending is None:
        _go_on(run, row)


def _do(run, words):
    word = words[0]
    if word == "set":
        run.places = put(run.places, words[1], term_worth(words[2:], run.places))
    elif word == "tell":
        run.said.append(word_worth(words[1], run.places))
    elif word == "ask":
        _ask(run, words[1])
    elif word == "stop":
        run.ending = "stopped"
    elif word == "end" and not run.calls:
        run.ending = "ended"


def _ask(run, place):
    if run.used == len(run.inputs):
        run.ending = "dry"
        return
    run.places = put(run.places, place, run.inputs[run.used])
    run.used += 1


def _go_on(run, row):
    word = run.lines[row][0]
    if word in ("if", "while"):
        _settle(run, row)
    elif word == "call":
        run.calls.append(row)
        run.standing = run.source.begin(run.lines[row][1])
    elif word == "end":
        _take(run, (run.calls.pop(), 0, ON))
    else:
        _take(run, (row, 0, ON))


def _settle(run, row):
    """Asks the condition of a row, whose part 0 is met already."""
    condition = run.source.condition(row)
    answers = asked_parts(condition, run.places)
    for part, answer in enumerate(answers):
        if answer == NOT_ASKED:
            continue
        if part > 0:
            run.trail.append((row, part))
        _take(run, (row, part, ANSWERS[answer]))
    key = (row, number_of(condition, answers))
    run.settled[key] = run.settled.get(key, 0) + 1


def _take(run, way):
    run.gone[way] = run.gone.get(way, 0) + 1
    run.standing = run.source.leads(way)
