"""Conditions: what they are, how they are written, and how they are asked."""

from whatran.errors import NoCondition, NoValues
from whatran.wholes import is_whole

PLACES = ("a", "b", "c")
NUMBERS = ("0", "1", "2", "3")
COMPARING = ("=", "<")
# How many conditions stand behind each word that is made of conditions.
SIDES = {"not": 1, "and": 2, "or": 2}
MOST_PARTS = 8
MOST_LEVELS = 8
NOT_ASKED = 2


def is_value_word(thing):
    """Whether the thing is a word of a value."""
    return isinstance(thing, str) and (thing in PLACES or thing in NUMBERS)


def is_values(thing):
    """Whether the thing is a tuple of the values of the three places."""
    if not isinstance(thing, tuple) or len(thing) != len(PLACES):
        return False
    return all([is_whole(number, 0, 3) for number in thing])


def word_worth(word, values):
    """The number that a word of a value stands for."""
    _need_values(values)
    return _worth(word, values)


def is_condition(thing):
    """Whether the thing is a condition."""
    return _is_built(thing, MOST_LEVELS) and len(_parts(thing)) <= MOST_PARTS


def condition_text(condition):
    """The words of the condition, parted by blanks."""
    _need_condition(condition)
    return " ".join(_words(condition))


def read_condition(text):
    """The condition of which this is the text."""
    if not isinstance(text, str):
        raise NoCondition("a condition is read from a text")
    words = text.split(" ")
    condition, end = _read_from(words, 0, MOST_LEVELS)
    if end != len(words):
        raise NoCondition("the text does not end where the condition does")
    _need_condition(condition)
    return condition


def parts_of(condition):
    """The list of the parts of the condition, from the left."""
    _need_condition(condition)
    return _parts(condition)


def asked_parts(condition, values):
    """For each part 1 where it is asked and holds, 0 where it does not, 2 where it is not asked."""
    _need_condition(condition)
    _need_values(values)
    _, answers = _asked(condition, values)
    return answers


def is_held(condition, values):
    """Whether the condition holds with these values."""
    _need_condition(condition)
    _need_values(values)
    held, _ = _asked(condition, values)
    return held


def _need_condition(thing):
    if not is_condition(thing):
        raise NoCondition("no condition")


def _need_values(thing):
    if not is_values(thing):
        raise NoValues("values are a tuple of three numbers from 0 to 3")


def _worth(word, values):
    if word in PLACES:
        return values[PLACES.index(word)]
    return NUMBERS.index(word)


def _is_built(thing, levels):
    """Whether the thing is built as a condition is, in no more than so many levels."""
    # The count of levels ends the walk, however deep a tuple is nested.
    if levels == 0 or not isinstance(thing, tuple) or len(thing) == 0:
        return False
    word, *sides = thing
    if not isinstance(word, str):
        return False
    if word in COMPARING:
        return len(sides) == 2 and all([is_value_word(side) for side in sides])
    if word not in SIDES or len(sides) != SIDES[word]:
        return False
    return all([_is_built(side, levels - 1) for side in sides])


def _parts(condition):
    if condition[0] in COMPARING:
        return [condition]
    return [part for side in condition[1:] for part in _parts(side)]


def _words(condition):
    if condition[0] in COMPARING:
        return list(condition)
    return [condition[0]] + [word for side in condition[1:] for word in _words(side)]


def _read_from(words, start, levels):
    """What is read as a condition from the word at start on, and where it ends."""
    # The count of levels ends the walk, however long a row of words is.
    if levels == 0 or start >= len(words):
        raise NoCondition("too deep, or no word where one is due")
    word = words[start]
    end = start + 1
    if word in COMPARING:
        # Whether these are two words of values is looked at with the whole condition.
        sides = words[end:end + 2]
        return (word, *sides), end + 2
    if word not in SIDES:
        raise NoCondition("no word with which a condition begins")
    sides = []
    for _ in range(SIDES[word]):
        side, end = _read_from(words, end, levels - 1)
        sides.append(side)
    return (word, *sides), end


def _asked(condition, values):
    """Whether the condition holds, and a tuple of what its parts answer."""
    word = condition[0]
    if word in COMPARING:
        held = _is_part_held(condition, values)
        return held, (1 if held else 0,)
    held, answers = _asked(condition[1], values)
    if word == "not":
        return not held, answers
    if held == (word == "or"):
        return held, answers + (NOT_ASKED,) * len(_parts(condition[2]))
    held, others = _asked(condition[2], values)
    return held, answers + others


def _is_part_held(part, values):
    word, left, right = part
    if word == "=":
        return _worth(left, values) == _worth(right, values)
    return _worth(left, values) < _worth(right, values)
