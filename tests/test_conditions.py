import copy
import itertools
import random
import unittest

from tests.things import GREAT, NO_WHOLES, nested
from whatran.conditions import (
    asked_parts, condition_text, is_condition, is_held, parts_of, read_condition, word_worth,
)
from whatran.errors import NoCondition, NoValues

WORDS = ["a", "b", "c", "0", "1", "2", "3"]
ALL_VALUES = list(itertools.product(range(4), repeat=3))
PART = ("=", "a", "b")


def joined(many, word="and"):
    """A condition of so many parts, no deeper than it must be."""
    row = [("<", "a", "3") for _ in range(many)]
    while len(row) > 1:
        pairs = [row[at:at + 2] for at in range(0, len(row), 2)]
        row = [(word, *two) if len(two) == 2 else two[0] for two in pairs]
    return row[0]


def chained(many, on_left):
    """A condition of so many parts that is just as deep."""
    condition = PART
    for _ in range(many - 1):
        condition = ("or", condition, PART) if on_left else ("or", PART, condition)
    return condition


def some_condition(chance, levels):
    word = chance.choice(["=", "<", "not", "and", "or", "and", "or"])
    if levels == 1 or word in ("=", "<"):
        return (chance.choice(["=", "<"]), chance.choice(WORDS), chance.choice(WORDS))
    if word == "not":
        return ("not", some_condition(chance, levels - 1))
    return (word, some_condition(chance, levels - 1), some_condition(chance, levels - 1))


def size(condition):
    """How deep a condition is, and how many parts it has."""
    if condition[0] in ("=", "<"):
        return 1, 1
    sizes = [size(side) for side in condition[1:]]
    return 1 + max(deep for deep, _ in sizes), sum(many for _, many in sizes)


def some_conditions():
    chance = random.Random(11)
    found = [PART, nested(7), joined(8), joined(8, "or"), chained(8, True), chained(8, False)]
    while len(found) < 150:
        condition = some_condition(chance, chance.randint(1, 8))
        if size(condition)[0] <= 8 and size(condition)[1] <= 8:
            found.append(condition)
    return found


CONDITIONS = some_conditions()

NO_CONDITIONS = NO_WHOLES + [
    0, 1, "= a b", "a", "=", "", (), ("=",), ("=", "a"), ("=", "a", "b", "c"), ("<", "a"),
    ("<", "a", "b", "c"), (">", "a", "b"), ("==", "a", "b"), ("!=", "a", "b"), ("", "a", "b"),
    ("AND", PART, PART), ("Not", PART), ("xor", PART, PART), ("if", PART),
    ("not",), ("not", PART, PART), ("and",), ("and", PART), ("and", PART, PART, PART),
    ("or",), ("or", PART), ("or", PART, PART, PART),
    ["=", "a", "b"], ("not", ["=", "a", "b"]), ("and", PART, ["=", "a", "b"]),
    ("or", ["=", "a", "b"], PART), (["="], "a", "b"), (("=",), "a", "b"), ({}, "a", "b"),
    (None, "a", "b"), (True, PART), (1, "a", "b"), (b"=", "a", "b"),
    ("not", "a"), ("not", "= a b"), ("and", "a", "b"), ("=", PART, PART), ("=", PART, "a"),
    ("not", None), ("not", ()), ("and", PART, None), ("and", PART, ()), ("not", "not", PART),
    joined(9), joined(9, "or"), joined(16), chained(9, True), chained(9, False),
    nested(8), nested(9), nested(5000), ("and", nested(7), PART), ("or", PART, nested(5000)),
]
for part_word in ("=", "<"):
    for bad in [0, 1, 3, True, False, None, "", "ab", "00", "4", "-1", "d", "A", " ", "a ", "\n",
                b"a", b"1", 1.0, ("a",), (), ["a"], {}, PART, set(), "\u0663"]:
        NO_CONDITIONS.append((part_word, bad, "b"))
        NO_CONDITIONS.append((part_word, "a", bad))
        NO_CONDITIONS.append(("not", ("and", PART, (part_word, "a", bad))))

NO_VALUES = NO_WHOLES + [
    0, (0,), (0, 0), (0, 0, 0, 0), [0, 0, 0], [], {0: 0, 1: 0, 2: 0}, {0, 1, 2}, "000", b"000",
    range(3), (-1, 0, 0), (0, -1, 0), (0, 0, -1), (4, 0, 0), (0, 4, 0), (0, 0, 4), (GREAT, 0, 0),
    (True, 0, 0), (0, True, 0), (0, 0, False), ("0", 0, 0), (0, "1", 0), (0, 0, "a"),
    (None, 0, 0), (0, 0, None), (1.0, 0, 0), (0, 0, 2.0), ([0], 0, 0), (0, {}, 0), (0, 0, (0,)),
    ((0, 0, 0),),
]


def doubled():
    """A tuple that has twice as many parts with each level, of thousands of levels."""
    condition = PART
    for _ in range(5000):
        condition = ("and", condition, condition)
    return condition


def reads_as_condition(text):
    """Whether the words, taken from the right, are put together to one condition."""
    sizes = []
    for word in reversed(text.split(" ")):
        if word in WORDS:
            sizes.append((0, 0))
            continue
        many = {"=": 2, "<": 2, "and": 2, "or": 2, "not": 1}.get(word, 99)
        if len(sizes) < many:
            return False
        sides = [sizes.pop() for _ in range(many)]
        if any((deep == 0) != (word in ("=", "<")) for deep, _ in sides):
            return False
        parts = 1 if word in ("=", "<") else sum(part for _, part in sides)
        sizes.append((1 + max(deep for deep, _ in sides), parts))
    return len(sizes) == 1 and 1 <= sizes[0][0] <= 8 and sizes[0][1] <= 8


def changed_texts(text):
    """The text with one word left out, told twice, exchanged, or another one."""
    words = text.split(" ")
    for at in range(len(words)):
        yield " ".join(words[:at] + words[at + 1:])
        yield " ".join(words[:at] + [words[at]] + words[at:])
        for other in WORDS + ["=", "<", "not", "and", "or", "x", "", "AND", "4", "if"]:
            yield " ".join(words[:at] + [other] + words[at + 1:])
    for one, other in itertools.combinations(range(len(words)), 2):
        swapped = list(words)
        swapped[one], swapped[other] = words[other], words[one]
        yield " ".join(swapped)


def python_text(condition, parts):
    """The condition as Python asks it, which leaves the same parts unasked."""
    word = condition[0]
    if word in ("=", "<"):
        parts.append(condition)
        return f"ask({len(parts) - 1})"
    sides = [f"({python_text(side, parts)})" for side in condition[1:]]
    return f"not {sides[0]}" if word == "not" else f"{sides[0]} {word} {sides[1]}"


def asked_by_python(condition, values):
    """What asked_parts and is_held tell, by Python's own way of asking."""
    parts = []
    text = python_text(condition, parts)
    answers = [2] * len(parts)
    numbers = dict(zip("abc0123", values + (0, 1, 2, 3)))

    def ask(at):
        word, left, right = parts[at]
        left, right = numbers[left], numbers[right]
        answers[at] = int(left == right if word == "=" else left < right)
        return answers[at] == 1

    held = eval(text, {"ask": ask})
    return tuple(answers), held


class WordWorthTest(unittest.TestCase):
    def test_a_place_is_worth_its_value(self):
        for values in ALL_VALUES:
            for at, word in enumerate("abc"):
                self.assertEqual(word_worth(word, values), values[at])

    def test_a_number_is_worth_itself(self):
        for values in ALL_VALUES:
            for number in range(4):
                told = word_worth(str(number), values)
                self.assertEqual(told, number)
                self.assertIs(type(told), int)

    def test_values_that_are_none(self):
        for values in NO_VALUES:
            for word in WORDS:
                with self.assertRaises(NoValues):
                    word_worth(word, values)


class IsConditionTest(unittest.TestCase):
    def test_parts_of_all_words(self):
        for word, left, right in itertools.product(["=", "<"], WORDS, WORDS):
            self.assertIs(is_condition((word, left, right)), True)

    def test_one_to_eight_parts(self):
        for many in range(1, 9):
            for word in ("and", "or"):
                self.assertIs(is_condition(joined(many, word)), True)

    def test_one_to_eight_deep(self):
        for many in range(1, 9):
            self.assertIs(is_condition(nested(many - 1)), True)
            self.assertIs(is_condition(chained(many, True)), True)
            self.assertIs(is_condition(chained(many, False)), True)

    def test_deep_and_wide_at_once(self):
        deepest = ("and", nested(6), ("or", nested(5), nested(5)))
        self.assertEqual(size(deepest), (8, 3))
        self.assertIs(is_condition(deepest), True)
        self.assertIs(is_condition(("not", deepest)), False)

    def test_some_conditions(self):
        for condition in CONDITIONS:
            self.assertIs(is_condition(condition), True)

    def test_what_is_none(self):
        for thing in NO_CONDITIONS:
            self.assertIs(is_condition(thing), False)

    def test_a_tuple_of_very_many_parts_is_none(self):
        self.assertIs(is_condition(doubled()), False)


class TextTest(unittest.TestCase):
    def test_plain_examples(self):
        condition = ("and", ("<", "a", "3"), ("not", ("=", "b", "c")))
        self.assertEqual(condition_text(condition), "and < a 3 not = b c")
        self.assertEqual(read_condition("and < a 3 not = b c"), condition)
        self.assertEqual(read_condition("= 0 0"), ("=", "0", "0"))
        self.assertEqual(
            read_condition("or or = a 1 < 1 b not not = c c"),
            ("or", ("or", ("=", "a", "1"), ("<", "1", "b")), ("not", ("not", ("=", "c", "c")))),
        )

    def test_each_is_the_way_back_of_the_other(self):
        for condition in CONDITIONS:
            text = condition_text(condition)
            self.assertIs(type(text), str)
            self.assertEqual(read_condition(text), condition)
            self.assertEqual(condition_text(read_condition(text)), text)

    def test_unlike_conditions_have_unlike_texts(self):
        unlike = set(CONDITIONS)
        self.assertEqual(len({condition_text(condition) for condition in unlike}), len(unlike))

    def test_words_are_parted_by_single_blanks(self):
        for condition in CONDITIONS:
            words = condition_text(condition).split(" ")
            self.assertTrue(set(words) <= set(WORDS) | {"=", "<", "not", "and", "or"})

    def test_texts_with_a_word_changed(self):
        for condition in CONDITIONS[:40]:
            for text in changed_texts(condition_text(condition)):
                if reads_as_condition(text):
                    self.assertEqual(condition_text(read_condition(text)), text)
                else:
                    with self.assertRaises(NoCondition):
                        read_condition(text)

    def test_texts_of_none(self):
        for text in [
            "", " ", "  ", "\n", "a", "0", "=", "not", "and", "= a", "= a b c", "a = b", "a b =",
            "and = a b", "and = a b = a b = a b", "not = a b = a b", "= a b not", "= a b x",
            "> a b", "== a b", "=a b", "= ab", "= a, b", "(= a b)", "xor = a b = a b",
            "=  a b", "= a  b", " = a b", "= a b ", "= a b  ", "  = a b", "not  = a b",
            "= a b\n", "\n= a b", "=\na b", "= a\nb", "= a b\r", "=\ta\tb", "= a\u00a0b",
            "= A b", "= a B", "Not = a b", "NOT = a b", "And = a b = a b", "OR = a b = a b",
            "= a 4", "= a 10", "= a -1", "= a 01", "= d a", "= a \u0663", "\ufeff= a b", "= a \ud800",
            "= = a", "< not a", "and a b", "not a", "or = a b a",
        ]:
            with self.subTest(text=text):
                with self.assertRaises(NoCondition):
                    read_condition(text)

    def test_texts_of_nine_parts_or_levels(self):
        self.assertEqual(read_condition("and " * 7 + "= a b " * 7 + "= a b"), chained_with_and())
        for text in [
            "and " * 8 + "= a b " * 8 + "= a b", "or " * 15 + "= a b " * 15 + "= a b",
            "and or = a b = a b and and = a b = a b and and or = a b = a b = a b and = a b = a b",
            "not " * 8 + "= a b", "not " * 100000 + "= a b", "and " * 100000, "not " * 100000 + "not",
        ]:
            with self.assertRaises(NoCondition):
                read_condition(text)
        self.assertEqual(read_condition("not " * 7 + "= a b"), nested(7))

    def test_what_is_no_text(self):
        for thing in NO_WHOLES + [0, b"= a b", ["=", "a", "b"], PART, bytearray(b"= a b")]:
            if not isinstance(thing, str):
                with self.assertRaises(NoCondition):
                    read_condition(thing)

    def test_what_is_no_condition_has_no_text(self):
        for thing in NO_CONDITIONS + [doubled()]:
            with self.assertRaises(NoCondition):
                condition_text(thing)


def chained_with_and():
    condition = PART
    for _ in range(7):
        condition = ("and", condition, PART)
    return condition


class PartsTest(unittest.TestCase):
    def test_parts_from_the_left(self):
        condition = ("or", ("and", ("=", "a", "1"), ("not", ("<", "b", "2"))), ("=", "c", "3"))
        self.assertEqual(parts_of(condition), [("=", "a", "1"), ("<", "b", "2"), ("=", "c", "3")])
        self.assertEqual(parts_of(PART), [PART])
        self.assertEqual(parts_of(nested(7)), [PART])
        self.assertEqual(parts_of(joined(8)), [("<", "a", "3")] * 8)

    def test_as_many_parts_as_the_text_has(self):
        for condition in CONDITIONS:
            words = condition_text(condition).split(" ")
            starts = [at for at, word in enumerate(words) if word in ("=", "<")]
            self.assertEqual(parts_of(condition), [tuple(words[at:at + 3]) for at in starts])

    def test_the_list_is_a_new_one_each_time(self):
        for condition in (PART, joined(3)):
            told = parts_of(condition)
            before = list(told)
            told.append("mine")
            told[0] = None
            self.assertEqual(parts_of(condition), before)
            self.assertIsNot(parts_of(condition), parts_of(condition))

    def test_what_is_no_condition(self):
        for thing in NO_CONDITIONS:
            with self.assertRaises(NoCondition):
                parts_of(thing)


class AskedTest(unittest.TestCase):
    def test_a_part_alone(self):
        for values in ALL_VALUES:
            first, second, third = values
            self.assertEqual(asked_parts(("=", "a", "b"), values), (int(first == second),))
            self.assertEqual(asked_parts(("<", "b", "c"), values), (int(second < third),))
            self.assertEqual(asked_parts(("<", "2", "c"), values), (int(2 < third),))
            self.assertEqual(asked_parts(("=", "1", "1"), values), (1,))

    def test_the_second_side_is_asked_only_where_the_first_leaves_it_open(self):
        for values in ALL_VALUES:
            first, second = int(values[0] == 1), int(values[1] == 2)
            sides = (("=", "a", "1"), ("=", "b", "2"))
            told_and = (1, second) if first else (0, 2)
            told_or = (1, 2) if first else (0, second)
            self.assertEqual(asked_parts(("and", *sides), values), told_and)
            self.assertEqual(asked_parts(("or", *sides), values), told_or)
            self.assertEqual(asked_parts(("not", ("or", *sides)), values), told_or)
            turned = ("and", ("not", sides[0]), sides[1])
            self.assertEqual(asked_parts(turned, values), (1, 2) if first else (0, second))

    def test_each_part_that_was_not_asked_is_2(self):
        no, yes = ("=", "0", "1"), ("=", "0", "0")
        many = ("and", ("or", no, yes), ("not", ("or", yes, no)))
        self.assertEqual(asked_parts(("and", no, many), (0, 0, 0)), (0, 2, 2, 2, 2))
        self.assertEqual(asked_parts(("or", no, many), (0, 0, 0)), (0, 0, 1, 1, 2))
        self.assertEqual(asked_parts(("or", many, no), (0, 0, 0)), (0, 1, 1, 2, 0))
        self.assertEqual(asked_parts(("or", yes, joined(7)), (0, 0, 0)), (1,) + (2,) * 7)

    def test_as_python_asks_at_all_values(self):
        for condition in CONDITIONS:
            for values in ALL_VALUES:
                answers, held = asked_by_python(condition, values)
                told = asked_parts(condition, values)
                self.assertEqual(told, answers)
                self.assertEqual({type(answer) for answer in told}, {int})
                self.assertIs(is_held(condition, values), held)

    def test_asked_parts_tells_a_tuple(self):
        self.assertIs(type(asked_parts(joined(3), (3, 0, 0))), tuple)

    def test_what_is_no_condition_comes_first(self):
        for function in (asked_parts, is_held):
            for thing in NO_CONDITIONS:
                for values in [(0, 0, 0), (0, 0), None, [0, 0, 0]]:
                    with self.assertRaises(NoCondition):
                        function(thing, values)

    def test_what_are_no_values(self):
        for function in (asked_parts, is_held):
            for values in NO_VALUES:
                for condition in (PART, ("=", "0", "1"), joined(8)):
                    with self.assertRaises(NoValues):
                        function(condition, values)

    def test_asked_again_the_answer_is_the_same(self):
        for condition in CONDITIONS[:20]:
            self.assertEqual(asked_parts(condition, (1, 2, 3)), asked_parts(condition, (1, 2, 3)))


class HandedInTest(unittest.TestCase):
    def test_what_is_handed_in_stays(self):
        lists = ["=", "a", "b"]
        for thing in (joined(5), ("not", lists), lists, {"=": 1}, ("=", ["a"], "b")):
            before = copy.deepcopy(thing)
            for function in (condition_text, read_condition, parts_of):
                try:
                    function(thing)
                except NoCondition:
                    pass
            for function in (asked_parts, is_held):
                try:
                    function(thing, (0, 1, 2))
                except NoCondition:
                    pass
            is_condition(thing)
            self.assertEqual(thing, before)

    def test_values_stay(self):
        for values in ([0, 1, 2], ([0], 1, 2), {0: 1}):
            before = copy.deepcopy(values)
            for call in (lambda: word_worth("a", values), lambda: is_held(PART, values)):
                with self.assertRaises(NoValues):
                    call()
            self.assertEqual(values, before)


if __name__ == "__main__":
    unittest.main()
