"""Programs for the tests, made by chance from a fixed start, and at the document's bounds."""

import random

from tests.plain import all_parts, routines_of, statements_in

VALUE_WORDS = ["a", "b", "c", "0", "1", "2", "3"]

LOOP = "def main\nwhile < a 2\nset a a + 1\nend\nend"


def some_condition(chance, parts):
    """A condition of at most so many parts."""
    word = chance.choice(["=", "<", "=", "<", "not", "and", "or", "and", "or"])
    if parts == 1 and word in ("and", "or"):
        word = "not"
    if word == "not":
        inner = chance.choice(["=", "<"]) if parts == 1 else None
        text = part_text(chance, inner) if inner else some_condition(chance, parts)
        return "not " + text if text.count("not") < 3 else text
    if word in ("=", "<"):
        return part_text(chance, word)
    first = chance.randint(1, parts - 1)
    return f"{word} {some_condition(chance, first)} {some_condition(chance, parts - first)}"


def part_text(chance, word):
    return f"{word} {chance.choice(VALUE_WORDS)} {chance.choice(VALUE_WORDS)}"


def some_rows(chance, many, names, deep, parts):
    """At most so many rows, of any forms that may stand within a routine."""
    rows = []
    while len(rows) < many and chance.random() < 0.93:
        left = many - len(rows)
        word = chance.choice(["set", "set", "ask", "tell", "stop", "call", "if", "if", "while", "while"])
        if word in ("if", "while") and left >= 2 and deep < 8:
            rows += some_block(chance, left, names, deep, word, parts)
        elif word == "call" and names:
            rows.append(f"call {chance.choice(names)}")
        elif word == "ask":
            rows.append(f"ask {chance.choice('abc')}")
        elif word == "tell":
            rows.append(f"tell {chance.choice(VALUE_WORDS)}")
        elif word == "stop" and chance.random() < 0.3:
            rows.append("stop")
        elif word == "set":
            sign = chance.choice(["", " + ", " - "])
            term = chance.choice(VALUE_WORDS) + (sign + chance.choice(VALUE_WORDS) if sign else "")
            rows.append(f"set {chance.choice('abc')} {term}")
    return rows


def some_block(chance, left, names, deep, word, parts):
    condition = some_condition(chance, chance.randint(1, parts))
    within = chance.randint(0, left - 2)
    rows = [f"{word} {condition}"] + some_rows(chance, within, names, deep + 1, parts)
    left -= len(rows) + 1
    if word == "if" and left >= 1 and chance.random() < 0.5:
        rows += ["else"] + some_rows(chance, chance.randint(0, left - 1), names, deep + 1, parts)
    return rows + ["end"]


def some_program(chance, many, parts=3):
    """The text of a program of at most so many rows, from two on."""
    rows = []
    names = []
    for name in chance.sample(["p", "set", "end", "def", "stop", "longname", "q"], chance.randint(0, 3)):
        room = (many - 2 - len(rows)) // 2 - 2
        if room < 0:
            break
        rows += [f"def {name}"] + some_rows(chance, chance.randint(0, room), names, 0, parts) + ["end"]
        names.append(name)
    rows += ["def main"] + some_rows(chance, many - 2 - len(rows), names, 0, parts) + ["end"]
    return "\n".join(rows)


def parts_in(text):
    """How many parts the conditions of a program have in all."""
    found = [one for routine in routines_of(text).values() for one in statements_in(routine.body)]
    return sum(len(all_parts(one.condition)) for one in found if one.condition is not None)


def some_programs(start, count, many, parts=3):
    """A list of so many texts of programs within the document's bounds."""
    chance = random.Random(start)
    found = []
    while len(found) < count:
        text = some_program(chance, chance.randint(2, many), parts)
        if parts_in(text) <= 30:
            found.append(text)
    return found


def some_inputs(chance):
    return [chance.randint(0, 3) for _ in range(chance.choice([0, 1, 3, 8, 30]))]


def great_program():
    """Sixty rows, thirty parts, eight blocks one within the other, routines called again and again."""
    rows = ["def p"]
    rows += ["while not and < a 3 or = b 0 < c 2", "set a a + 1", "ask b", "end", "end"]
    rows += ["def q"] + [f"if < {place} {number}" for number in "12" for place in "abc"] + ["if = a a", "while < b 3"]
    rows += ["call p", "set b b + 1", "tell b"] + ["end"] * 4 + ["else", "call p"] + ["end"] * 4 + ["end"]
    rows += ["def main", "ask a", "while or or < a 3 = b 1 and < c 2 not = a 3", "call q", "call p", "ask c"]
    rows += ["if and and = a 1 = b 2 or = c 3 < b 1", "stop", "else", "tell a", "end", "call q", "end"]
    rows += ["if or = a 0 or = a 1 or = a 2 or = a 3 = b b", "tell c", "end"]
    rows += ["if and = a b < c 3", "end", "while and < a 1 and = b b or = c c = c 0", "set a a + 1", "end"]
    rows += ["set b 3 - a"] * (59 - len(rows)) + ["end"]
    return "\n".join(rows)
