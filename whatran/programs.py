"""Programs: their rows and routines, their points, and the ways between these."""

from whatran.blocks import read_blocks
from whatran.errors import NoName, NoPoint, NoWay
from whatran.flow import leads_of, points_of
from whatran.wholes import is_whole


class Program:
    """A program, read from its text."""

    def __init__(self, text):
        self._blocks = read_blocks(text)
        self._text = text
        self._points = {point: True for point in points_of(self._blocks)}
        self._leads = leads_of(self._blocks)

    def __eq__(self, other):
        return isinstance(other, Program) and self._text == other._text

    def __len__(self):
        return len(self._blocks.words)

    def text(self):
        """The text from which it was read."""
        return self._text

    def rows(self):
        """The list of its rows."""
        return self._text.split("\n")

    def routines(self):
        """The list of the names of its routines, in their order."""
        return list(self._blocks.begins)

    def points(self):
        """The list of all points, rising."""
        return list(self._points)

    def is_point(self, thing):
        """Whether the thing is a point of the program."""
        # Its numbers are looked at first: a truth is like a number as a key, and a list is no key.
        if not isinstance(thing, tuple) or not all([is_whole(number, 0, None) for number in thing]):
            return False
        return thing in self._points

    def word(self, row):
        """The first word of a row."""
        self._need_row(row)
        return self._blocks.words[row][0]

    def routine(self, row):
        """The name of the routine in which a row stands."""
        self._need_row(row)
        return self._blocks.homes[row]

    def condition(self, row):
        """The condition of an if or while."""
        self._need_row(row)
        if row not in self._blocks.conditions:
            raise NoPoint("no row with a condition")
        return self._blocks.conditions[row]

    def called(self, row):
        """The name of the routine that a call calls."""
        if self.word(row) != "call":
            raise NoPoint("no row of a call")
        return self._blocks.words[row][1]

    def begin(self, name):
        """The point of the def of a routine."""
        self._need_routine(name)
        return (self._blocks.begins[name], 0)

    def close(self, name):
        """The point of the end of a routine."""
        self._need_routine(name)
        return (self._blocks.closes[self._blocks.begins[name]], 0)

    def ways(self):
        """The list of all ways, rising."""
        return list(self._leads)

    def is_way(self, thing):
        """Whether the thing is a way of the program."""
        if not isinstance(thing, tuple) or len(thing) != 3:
            return False
        row, part, word = thing
        if not is_whole(row, 0, None) or not is_whole(part, 0, None) or not isinstance(word, str):
            return False
        return thing in self._leads

    def leads(self, way):
        """The point to which a way leads."""
        if not self.is_way(way):
            raise NoWay("no way of the program")
        return self._leads[way]

    def _need_row(self, row):
        if not is_whole(row, 0, len(self._blocks.words) - 1):
            raise NoPoint("no row of the program")

    def _need_routine(self, name):
        if not isinstance(name, str) or name not in self._blocks.begins:
            raise NoName("no routine of the program")
