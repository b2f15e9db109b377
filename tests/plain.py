"""What the document says of conditions, programs and runs, told a second time in another manner.

The tests compare the package with it. It takes texts of programs that are right.
"""

import itertools
from fractions import Fraction
from functools import lru_cache

PLACES = "abc"


class Halt(Exception):
    """The end of a run."""


# Conditions.

def all_parts(condition):
    if condition[0] in ("=", "<"):
        return [condition]
    return [part for side in condition[1:] for part in all_parts(side)]


def ask(condition, answers, asked):
    """Whether the condition holds where its parts answer so; asked gets the parts asked."""
    if condition[0] in ("=", "<"):
        part = len(asked)
        asked.append(answers[part])
        return answers[part] == 1
    if condition[0] == "not":
        return not ask(condition[1], answers, asked)
    held = ask(condition[1], answers, asked)
    if held == (condition[0] == "or"):
        asked.extend([2] * len(all_parts(condition[2])))
        return held
    return ask(condition[2], answers, asked)


@lru_cache(maxsize=None)
def throughs_of(condition):
    """A dict with each through and whether the condition holds then, of all answers of the parts."""
    found = {}
    for answers in itertools.product((0, 1), repeat=len(all_parts(condition))):
        asked = []
        held = ask(condition, answers, asked)
        found[tuple(asked)] = held
    return found


@lru_cache(maxsize=None)
def worths_of(condition):
    throughs = throughs_of(condition)
    return [
        (0, len({through[part + 1:] for through in throughs if through[part] == 0}))
        for part in range(len(all_parts(condition)))
    ]


def number_in(condition, through):
    worths = worths_of(condition)
    return sum(worths[part][answer] for part, answer in enumerate(through) if answer != 2)


def read_words(words):
    """The condition that these words begin with; they are taken off the list."""
    word = words.pop(0)
    if word in ("=", "<"):
        return (word, words.pop(0), words.pop(0))
    if word == "not":
        return (word, read_words(words))
    left = read_words(words)
    return (word, left, read_words(words))


def worth_in(word, values):
    return values[PLACES.index(word)] if word in PLACES else int(word)


def through_with(condition, values):
    """The through of the condition with these values, and whether it holds."""
    answers = []
    for word, left, right in all_parts(condition):
        one, other = worth_in(left, values), worth_in(right, values)
        answers.append(int(one == other if word == "=" else one < other))
    asked = []
    held = ask(condition, answers, asked)
    return tuple(asked), held


# Programs, as nested lists of statements.

class Statement:
    def __init__(self, row, words):
        self.row = row
        self.words = words
        self.word = words[0]
        self.condition = read_words(words[1:]) if self.word in ("if", "while") else None
        self.body = []
        self.other = None
        self.close = None


def nest(rows, at, until=("end",)):
    """The statements from a row on, and the row of the end or else behind them."""
    found = []
    while rows[at].split(" ")[0] not in until:
        one = Statement(at, rows[at].split(" "))
        at += 1
        if one.word in ("if", "while", "def"):
            one.body, at = nest(rows, at, ("end", "else"))
            if rows[at] == "else":
                one.other, at = nest(rows, at + 1)
            one.close = at
            at += 1
        found.append(one)
        if at == len(rows):
            return found, at
    return found, at


@lru_cache(maxsize=None)
def routines_of(text):
    """A dict of the routines by their names, each a statement with the word def."""
    found, _ = nest(text.split("\n"), 0)
    return {one.words[1]: one for one in found}


def statements_in(body):
    for one in body:
        yield one
        yield from statements_in(one.body)
        yield from statements_in(one.other or [])


@lru_cache(maxsize=None)
def points_in(text):
    found = []
    for routine in routines_of(text).values():
        found += [(routine.row, 0), (routine.close, 0)]
        for one in statements_in(routine.body):
            many = 1 if one.condition is None else len(all_parts(one.condition))
            found += [(one.row, part) for part in range(many)]
    return sorted(found)


@lru_cache(maxsize=None)
def leads_in(text):
    """A dict with the point to which each way leads."""
    leads = {}
    for routine in routines_of(text).values():
        end = (routine.close, 0)
        leads[(routine.row, 0, "on")] = first_of(routine.body, end)
        link(routine.body, end, leads)
    return leads


def first_of(body, behind):
    return (body[0].row, 0) if body else behind


def link(body, behind, leads):
    for at, one in enumerate(body):
        follows = first_of(body[at + 1:], behind)
        if one.condition is not None:
            back = (one.row, 0) if one.word == "while" else follows
            held = first_of(one.body, back)
            missed = first_of(one.other or [], follows)
            link_parts(one, held, missed, leads)
            link(one.body, back, leads)
            link(one.other or [], follows, leads)
        elif one.word != "stop":
            leads[(one.row, 0, "on")] = follows


def link_parts(one, held, missed, leads):
    for through, holds in throughs_of(one.condition).items():
        asked = [part for part, answer in enumerate(through) if answer != 2]
        for at, part in enumerate(asked):
            if at + 1 < len(asked):
                lead = (one.row, asked[at + 1])
            else:
                lead = held if holds else missed
            way = (one.row, part, "yes" if through[part] else "no")
            assert leads.setdefault(way, lead) == lead


# Runs.

class Machine:
    """Runs a program by going down its nested statements."""

    def __init__(self, text, inputs, fuel):
        self.routines = routines_of(text)
        self.inputs = list(inputs)
        self.left = fuel
        self.values = {place: 0 for place in PLACES}
        self.asked = 0
        self.told = []
        self.log = []
        self.through = {}
        self.stack = []
        try:
            self.call("main")
        except Halt as halt:
            self.outcome = str(halt)

    def worth(self, word):
        return self.values[word] if word in PLACES else int(word)

    def meet(self, row):
        self.log.append(("met", (row, 0)))
        self.stack[-1] = (row, 0)
        self.left -= 1

    def take(self, row, part=0, word="on"):
        self.log.append(("way", (row, part, word)))

    def pay(self):
        if self.left == 0:
            raise Halt("spent")

    def call(self, name):
        routine = self.routines[name]
        self.stack.append(None)
        self.meet(routine.row)
        self.pay()
        self.take(routine.row)
        self.go(routine.body)
        self.meet(routine.close)
        if name == "main":
            self.stack = []
            raise Halt("ended")
        self.pay()
        self.stack.pop()

    def go(self, body):
        for one in body:
            if one.word == "while":
                while self.holds(one):
                    self.go(one.body)
            elif one.word == "if":
                self.go(one.body if self.holds(one) else one.other or [])
            else:
                self.meet(one.row)
                self.do(one.words)
                self.pay()
                if one.word == "call":
                    self.call(one.words[1])
                self.take(one.row)

    def do(self, words):
        if words[0] == "tell":
            self.told.append(self.worth(words[1]))
        elif words[0] == "stop":
            raise Halt("stopped")
        elif words[0] == "ask":
            if not self.inputs:
                raise Halt("dry")
            self.values[words[1]] = self.inputs.pop(0)
            self.asked += 1
        elif words[0] == "set":
            number = self.worth(words[2])
            if len(words) == 5:
                other = self.worth(words[4])
                number = number + other if words[3] == "+" else number - other
            self.values[words[1]] = number % 4

    def holds(self, one):
        self.meet(one.row)
        self.pay()
        values = tuple(self.values[place] for place in PLACES)
        through, held = through_with(one.condition, values)
        for part, answer in enumerate(through):
            if answer != 2:
                if part:
                    self.log.append(("met", (one.row, part)))
                self.take(one.row, part, "yes" if answer else "no")
        key = (one.row, number_in(one.condition, through))
        self.through[key] = self.through.get(key, 0) + 1
        return held

    def listed(self, kind):
        return [thing for word, thing in self.log if word == kind]

    def counted(self, kind):
        many = {}
        for thing in self.listed(kind):
            many[thing] = many.get(thing, 0) + 1
        return many


# Sums.

def meets_in(text, counts, ends):
    """How often each point is met, by counts and ends."""
    leads = leads_in(text)
    meets = {}
    for point in points_in(text):
        if text.split("\n")[point[0]].startswith("def "):
            meets[point] = counts[point + ("on",)] + sum(end.count(point) for end in ends)
        else:
            meets[point] = sum(counts[way] for way in leads if leads[way] == point)
    return meets


def gaps_in(text, counts, ends):
    """For each point by how much it is met more often than is due, read off the document."""
    meets = meets_in(text, counts, ends)
    routines = routines_of(text)
    begins = {(one.row, 0): one for one in routines.values()}
    closes = {(one.close, 0): one for one in routines.values()}
    calls = {}
    for routine in routines.values():
        for one in statements_in(routine.body):
            if one.word == "call":
                calls.setdefault(one.words[1], []).append((one.row, 0))
    gaps = {}
    for point in points_in(text):
        stands = sum(end.count(point) for end in ends)
        if point in begins:
            own = calls.get(begins[point].words[1], [])
            due = sum(meets[call] for call in own)
            due -= sum(1 for end in ends if end and end[-1] in own)
            if begins[point].words[1] == "main":
                due = len(ends)
        elif point in closes:
            own = calls.get(closes[point].words[1], [])
            due = sum(counts[call + ("on",)] for call in own) + stands
            if closes[point].words[1] == "main":
                due = sum(1 for end in ends if end == ())
        else:
            due = stands + sum(counts[way] for way in counts if way[:2] == point)
        gaps[point] = meets[point] - due
    return gaps


def fault_in(text, counts, ends):
    """The least point at which the sums are not kept."""
    gaps = gaps_in(text, counts, ends)
    return min((point for point in gaps if gaps[point]), default=None)


# Marks.

def columns_in(text):
    """For each way by how much one more of it moves the gap of each point."""
    ways = sorted(leads_in(text))
    zeros = {way: 0 for way in ways}
    return {way: list(gaps_in(text, {**zeros, way: 1}, []).values()) for way in ways}


def rank_of(columns):
    """How many of the columns, lists of whole numbers, do not hang on others."""
    left = [[Fraction(number) for number in column] for column in columns]
    rank = 0
    while left:
        column = left.pop()
        at = next((at for at, number in enumerate(column) if number), None)
        if at is not None:
            rank += 1
            left = [[one - other * (row[at] / column[at]) for one, other in zip(row, column)] for row in left]
    return rank


def is_enough(columns, marks):
    """Whether no change is 0 at all of the marks."""
    others = [columns[way] for way in columns if way not in marks]
    return rank_of(others) == len(others)


def is_change(text, marks, change):
    """Whether it is a change that is 0 at all of the marks, for what has the keys of one."""
    if not any(change.values()) or any(change[way] for way in marks):
        return False
    return fault_in(text, change, []) is None
