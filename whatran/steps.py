"""What a row of a program does with the values of the places."""

from whatran.conditions import PLACES, word_worth

# Numbers are from 0 to 3 and go round.
ROUND = 4
FIRST_VALUES = (0, 0, 0)


def put(values, place, number):
    """The values with this number in one of the places."""
    return tuple([number if name == place else value for name, value in zip(PLACES, values)])


def term_worth(words, values):
    """The number of a term, told by its words."""
    number = word_worth(words[0], values)
    if len(words) == 1:
        return number
    other = word_worth(words[2], values)
    return (number + other) % ROUND if words[1] == "+" else (number - other) % ROUND
