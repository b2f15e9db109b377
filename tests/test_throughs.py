import copy
import itertools
import random
import unittest

from tests.plain import number_in, throughs_of, worths_of
from tests.test_conditions import (
    ALL_VALUES, CONDITIONS, NO_CONDITIONS, PART, chained, joined, nested, size,
)
from tests.things import GREAT, NO_WHOLES
from whatran.conditions import asked_parts, is_held, parts_of, read_condition
from whatran.errors import NoCondition, NoNumber, NoThrough
from whatran.throughs import all_throughs, number_of, part_worths, through_at

EXAMPLE = read_condition("and < a 3 = b c")
# Each part that is asked in some throughs alone, by way of and, or and not.
MIXED = read_condition("or and = a 1 not < b 2 and not or = c 0 = c 1 or < a b = b 3")
BOUNDS = [nested(7), joined(8), joined(8, "or"), chained(8, True), chained(8, False)]
NO_THROUGHS = NO_WHOLES + [
    0, (), (0,), (1,), (0, 0), (0, 1), (1, 2), (2, 2), (2, 0), (2, 1), (0, 2, 2), (1, 1, 1), (0, 2, 0),
    (3, 2), (0, 3), (1, 3), (1, -1), (-1, 2), (-2, 2), (GREAT, 2), (True, 1), (1, True), (False, 2),
    (1, False), (1.0, 1), (0, 2.0), ("0", 2), (None, 2), (0, None), ([0], 2), (0, []), ((0, 2),),
    [0, 2], [1, 1], {0: 0, 1: 2}, "02", b"02", range(0, 3, 2),
]


class AllThroughsTest(unittest.TestCase):
    def test_the_example_of_the_document(self):
        self.assertEqual(all_throughs(EXAMPLE), [((0, 2), False), ((1, 0), False), ((1, 1), True)])
        self.assertEqual(part_worths(EXAMPLE), [(0, 1), (0, 1)])

    def test_a_part_alone(self):
        self.assertEqual(all_throughs(PART), [((0,), False), ((1,), True)])
        self.assertEqual(all_throughs(("not", PART)), [((0,), True), ((1,), False)])
        self.assertEqual(all_throughs(nested(7)), [((0,), True), ((1,), False)])
        self.assertEqual(part_worths(nested(7)), [(0, 1)])

    def test_throughs_that_no_values_make_are_told_too(self):
        condition = read_condition("and = 0 1 < a a")
        self.assertEqual([through for through, _ in all_throughs(condition)], [(0, 2), (1, 0), (1, 1)])

    def test_or_and_not(self):
        condition = read_condition("or = a 1 not = b 2")
        self.assertEqual(all_throughs(condition), [((0, 0), True), ((0, 1), False), ((1, 2), True)])
        self.assertEqual(part_worths(condition), [(0, 2), (0, 1)])

    def test_each_through_once_by_number_and_whether_it_holds(self):
        for condition in CONDITIONS:
            told = all_throughs(condition)
            self.assertEqual(dict(told), throughs_of(condition))
            self.assertEqual(len(told), len(throughs_of(condition)))
            numbers = [number_in(condition, through) for through, _ in told]
            self.assertEqual(numbers, list(range(len(told))))

    def test_one_to_eight_parts_and_levels_are_among_them(self):
        sizes = [size(condition) for condition in CONDITIONS]
        self.assertEqual({deep for deep, _ in sizes}, set(range(1, 9)))
        self.assertEqual({many for _, many in sizes}, set(range(1, 9)))

    def test_what_values_make_is_a_through(self):
        for condition in CONDITIONS[:60]:
            told = dict(all_throughs(condition))
            for values in ALL_VALUES:
                self.assertIs(told[asked_parts(condition, values)], is_held(condition, values))

    def test_kinds_of_what_is_told(self):
        for condition in BOUNDS + [MIXED]:
            told = all_throughs(condition)
            self.assertIs(type(told), list)
            for entry in told:
                self.assertIs(type(entry), tuple)
                self.assertEqual([type(thing) for thing in entry], [tuple, bool])
                self.assertEqual({type(answer) for answer in entry[0]}, {int})


class WorthsTest(unittest.TestCase):
    def test_worths_by_ways_to_go_on(self):
        for condition in CONDITIONS:
            told = part_worths(condition)
            self.assertEqual(told, worths_of(condition))
            self.assertEqual(len(told), len(parts_of(condition)))

    def test_long_chains(self):
        self.assertEqual(part_worths(chained(8, False)), [(0, many) for many in range(8, 0, -1)])
        self.assertEqual(part_worths(chained(8, True)), [(0, many) for many in range(8, 0, -1)])
        self.assertEqual(part_worths(joined(8)), [(0, 1)] * 8)


class NumbersTest(unittest.TestCase):
    def test_number_of_is_the_place_and_the_sum_of_the_worths(self):
        for condition in CONDITIONS:
            worths = part_worths(condition)
            for place, (through, _) in enumerate(all_throughs(condition)):
                told = number_of(condition, through)
                self.assertEqual(told, place)
                asked = [part for part, answer in enumerate(through) if answer != 2]
                self.assertEqual(told, sum(worths[part][through[part]] for part in asked))

    def test_through_at_is_the_way_back(self):
        for condition in CONDITIONS:
            for place, (through, _) in enumerate(all_throughs(condition)):
                self.assertEqual(through_at(condition, place), through)

    def test_things_that_are_no_through(self):
        for through in NO_THROUGHS:
            with self.assertRaises(NoThrough):
                number_of(EXAMPLE, through)

    def test_all_tuples_of_answers_that_are_no_through(self):
        for condition in [EXAMPLE, MIXED, joined(4), chained(5, True), nested(3)]:
            throughs = throughs_of(condition)
            for answers in itertools.product((-1, 0, 1, 2, 3), repeat=min(6, len(parts_of(condition)))):
                if answers not in throughs:
                    with self.assertRaises(NoThrough):
                        number_of(condition, answers)

    def test_a_part_asked_that_is_not_asked_or_the_other_way_round(self):
        for condition in CONDITIONS[:40]:
            throughs = throughs_of(condition)
            for through in throughs:
                for part, answer in itertools.product(range(len(through)), (0, 1, 2, True, False, 1.0, "1")):
                    changed = through[:part] + (answer,) + through[part + 1:]
                    if type(answer) is int and changed in throughs:
                        self.assertEqual(number_of(condition, changed), number_in(condition, changed))
                    else:
                        with self.assertRaises(NoThrough):
                            number_of(condition, changed)

    def test_another_length(self):
        for condition in BOUNDS:
            for through in throughs_of(condition):
                for changed in (through[:-1], through + (2,), through + (0,), list(through), (2,) + through):
                    with self.assertRaises(NoThrough):
                        number_of(condition, changed)

    def test_numbers_that_are_none(self):
        for condition in [PART, EXAMPLE, MIXED] + BOUNDS:
            many = len(all_throughs(condition))
            for number in [many, many + 1, -1, -many, GREAT, -GREAT] + NO_WHOLES:
                with self.assertRaises(NoNumber):
                    through_at(condition, number)


class RefusedTest(unittest.TestCase):
    def test_what_is_no_condition(self):
        for thing in NO_CONDITIONS:
            for function in (all_throughs, part_worths):
                with self.assertRaises(NoCondition):
                    function(thing)

    def test_no_condition_comes_first(self):
        for thing in NO_CONDITIONS:
            for other in (None, True, -1, GREAT, "x", [], (3,), {}, (0,), 0):
                for function in (number_of, through_at):
                    with self.assertRaises(NoCondition):
                        function(thing, other)


class NewTest(unittest.TestCase):
    def test_each_list_is_a_new_one(self):
        for function in (all_throughs, part_worths):
            for condition in [EXAMPLE] + BOUNDS:
                told = function(condition)
                before = copy.copy(told)
                told.append("mine")
                told[0] = None
                self.assertEqual(function(condition), before)

    def test_asked_again_the_answer_is_the_same(self):
        chance = random.Random(3)
        for condition in chance.sample(CONDITIONS, 20):
            for number in range(len(all_throughs(condition))):
                self.assertEqual(through_at(condition, number), through_at(condition, number))


if __name__ == "__main__":
    unittest.main()
