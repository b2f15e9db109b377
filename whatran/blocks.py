"""The rows of a program's text: which rows are none, and which blocks they make."""

from whatran.conditions import PLACES, is_value_word, read_condition
from whatran.errors import NoCondition, NoProgram
from whatran.names import is_routine_name

MAIN = "main"
MOST_ROWS = 60
MOST_BLOCKS = 8
SIGNS = ("+", "-")


class Blocks:
    """The rows of a program as far as they are read; blocks are told by their first row."""

    def __init__(self):
        # The words of each row, and the name of the routine in which it stands.
        self.words = []
        self.homes = []
        # The row of the def of each routine, by its name, in their order.
        self.begins = {}
        # The row of the end of each block; the first row of the block of each else and end.
        self.closes = {}
        self.opens = {}
        self.elses = {}
        self.conditions = {}
        # The blocks that have no end yet, the outermost first.
        self.standing = []


def read_blocks(text):
    """The blocks of a program's text; NoProgram for any other text."""
    if not isinstance(text, str):
        raise NoProgram(-1)
    rows = text.split("\n")
    if len(rows) > MOST_ROWS:
        raise NoProgram(-1)
    blocks = Blocks()
    for row, line in enumerate(rows):
        words = line.split(" ")
        if not _goes_on(blocks, row, words):
            raise NoProgram(row)
        blocks.words.append(words)
        blocks.homes.append(list(blocks.begins)[-1])
    if blocks.standing or MAIN not in blocks.begins:
        raise NoProgram(len(rows))
    return blocks


def _goes_on(blocks, row, words):
    """Whether some program goes on with these words; then they are taken into the blocks."""
    if words[0] not in FORMS:
        return False
    if words[0] != "def" and not blocks.standing:
        return False
    form = FORMS[words[0]]
    return form(blocks, row, words)


def _take_def(blocks, row, words):
    if blocks.standing or MAIN in blocks.begins or len(words) != 2:
        return False
    name = words[1]
    if not is_routine_name(name) or name in blocks.begins:
        return False
    blocks.begins[name] = row
    blocks.standing.append(row)
    return True


def _take_set(blocks, row, words):
    if len(words) not in (3, 5) or words[1] not in PLACES or not is_value_word(words[2]):
        return False
    return len(words) == 3 or (words[3] in SIGNS and is_value_word(words[4]))


def _take_ask(blocks, row, words):
    return len(words) == 2 and words[1] in PLACES


def _take_tell(blocks, row, words):
    return len(words) == 2 and is_value_word(words[1])


def _take_stop(blocks, row, words):
    return len(words) == 1


def _take_call(blocks, row, words):
    if len(words) != 2 or words[1] not in blocks.begins:
        return False
    return blocks.begins[words[1]] in blocks.closes


def _take_condition(blocks, row, words):
    # The def of the routine stands among the blocks, too.
    if len(blocks.standing) > MOST_BLOCKS:
        return False
    try:
        condition = read_condition(" ".join(words[1:]))
    except NoCondition:
        return False
    blocks.conditions[row] = condition
    blocks.standing.append(row)
    return True


def _take_else(blocks, row, words):
    opening = blocks.standing[-1]
    if len(words) != 1 or blocks.words[opening][0] != "if" or opening in blocks.elses:
        return False
    blocks.elses[opening] = row
    blocks.opens[row] = opening
    return True


def _take_end(blocks, row, words):
    if len(words) != 1:
        return False
    opening = blocks.standing.pop()
    blocks.closes[opening] = row
    blocks.opens[row] = opening
    return True


FORMS = {
    "def": _take_def, "set": _take_set, "ask": _take_ask, "tell": _take_tell,
    "stop": _take_stop, "call": _take_call, "if": _take_condition, "while": _take_condition,
    "else": _take_else, "end": _take_end,
}
