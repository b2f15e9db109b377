import copy
import random
import time
import unittest

from tests.plain import all_parts, number_in, throughs_of, through_with
from tests.test_conditions import ALL_VALUES, CONDITIONS, NO_CONDITIONS, PART, chained, joined, nested, size
from tests.test_throughs import EXAMPLE, MIXED, NO_THROUGHS
from tests.things import GREAT, NO_WHOLES
from whatran.choosing import can_show, shown_by
from whatran.conditions import read_condition
from whatran.errors import NoCondition, NoNumber, NoThrough
from whatran.throughs import all_throughs


def shows(condition, part, one, other):
    """Whether two throughs, the one with 0 first, show that the part matters, read off the document."""
    held = throughs_of(condition)
    if (one[part], other[part]) != (0, 1) or held[one] == held[other]:
        return False
    return all({one[at], other[at]} != {0, 1} for at in range(len(one)) if at != part)


def shown_in(condition, part, seen):
    """The first tuple that shows it, of all tuples of two of these."""
    found = [(one, other) for one in seen for other in seen if shows(condition, part, one, other)]
    return min(found, key=lambda two: [number_in(condition, through) for through in two], default=None)


def seen_of_values(condition):
    return [through_with(condition, values)[0] for values in ALL_VALUES]


def numbers_of(condition):
    """What is no number of a part of the condition."""
    many = len(all_parts(condition))
    return [many, many + 1, GREAT, -1, -many, -GREAT] + [thing for thing in NO_WHOLES]


class ShownTest(unittest.TestCase):
    def check(self, condition, part, seen):
        before = copy.deepcopy(seen)
        told = shown_by(condition, part, seen)
        self.assertEqual(told, shown_in(condition, part, seen))
        self.assertEqual(seen, before)
        if told is not None:
            self.assertIs(type(told), tuple)
        return told

    def test_all_throughs_in_any_order(self):
        chance = random.Random(1)
        for condition in CONDITIONS:
            seen = list(throughs_of(condition))
            for part in range(len(all_parts(condition))):
                # Of all throughs some show each part.
                due = self.check(condition, part, seen)
                self.assertIsNotNone(due)
                chance.shuffle(seen)
                self.assertEqual(self.check(condition, part, seen), due)
                self.assertEqual(self.check(condition, part, seen + seen[:3]), due)

    def test_some_throughs_also_told_twice(self):
        chance = random.Random(2)
        found = {True: 0, False: 0}
        for condition in CONDITIONS:
            throughs = list(throughs_of(condition))
            for _ in range(8):
                seen = [chance.choice(throughs) for _ in range(chance.randint(0, 6))]
                for part in range(len(all_parts(condition))):
                    found[self.check(condition, part, seen) is None] += 1
        self.assertGreater(min(found.values()), 500)

    def test_one_and_two_throughs(self):
        for condition in CONDITIONS[:60]:
            throughs = list(throughs_of(condition))
            for one in throughs[:6]:
                for part in range(len(all_parts(condition))):
                    self.assertIsNone(self.check(condition, part, [one]))
                    self.assertIsNone(self.check(condition, part, [one, one]))
                    for other in throughs[-6:]:
                        self.check(condition, part, [one, other])

    def test_the_example_of_the_document(self):
        self.assertEqual(shown_by(EXAMPLE, 0, [(1, 1), (0, 2)]), ((0, 2), (1, 1)))
        self.assertEqual(shown_by(EXAMPLE, 1, [(1, 1), (1, 0)]), ((1, 0), (1, 1)))
        self.assertIsNone(shown_by(EXAMPLE, 0, [(1, 0), (0, 2)]))
        self.assertIsNone(shown_by(EXAMPLE, 1, [(1, 1), (0, 2)]))
        for part in (0, 1):
            self.assertIsNone(shown_by(EXAMPLE, part, []))

    def test_another_part_with_unlike_answers_shows_nothing(self):
        condition = read_condition("or and = a 1 = b 1 = c 1")
        self.assertIsNone(self.check(condition, 0, [(0, 2, 0), (1, 0, 1)]))
        self.assertIsNone(self.check(condition, 2, [(1, 0, 0), (0, 2, 0)]))
        self.assertIsNone(self.check(condition, 0, [(0, 2, 1), (1, 0, 0)]))
        self.assertEqual(self.check(condition, 0, [(0, 2, 0), (1, 1, 2)]), ((0, 2, 0), (1, 1, 2)))
        self.assertIsNone(self.check(condition, 2, [(1, 0, 0), (0, 2, 1)]))

    def test_a_part_that_one_of_both_does_not_ask_hinders_nothing(self):
        condition = read_condition("or and = a 1 = b 1 = c 1")
        self.assertEqual(self.check(condition, 0, [(0, 2, 0), (1, 1, 2)]), ((0, 2, 0), (1, 1, 2)))
        self.assertEqual(self.check(condition, 1, [(1, 0, 0), (1, 1, 2)]), ((1, 0, 0), (1, 1, 2)))
        condition = read_condition("and = a 1 or = b 1 = c 1")
        self.assertEqual(self.check(condition, 0, [(0, 2, 2), (1, 0, 1)]), ((0, 2, 2), (1, 0, 1)))

    def test_the_first_by_number(self):
        condition = read_condition("or and = a 1 = b 1 = c 1")
        throughs = [through for through, _ in all_throughs(condition)]
        self.assertEqual(throughs, [(0, 2, 0), (0, 2, 1), (1, 0, 0), (1, 0, 1), (1, 1, 2)])
        self.assertEqual(shown_by(condition, 2, throughs[::-1]), (throughs[0], throughs[1]))
        self.assertEqual(shown_by(condition, 2, throughs[:0:-1]), (throughs[2], throughs[3]))
        self.assertEqual(shown_by(condition, 0, throughs[::-1]), (throughs[0], throughs[4]))
        condition = read_condition("and or = a 1 = b 1 = c 1")
        throughs = [through for through, _ in all_throughs(condition)]
        self.assertEqual(throughs, [(0, 0, 2), (0, 1, 0), (0, 1, 1), (1, 2, 0), (1, 2, 1)])
        self.assertEqual(shown_by(condition, 2, throughs[::-1]), (throughs[1], throughs[2]))
        self.assertEqual(shown_by(condition, 2, [throughs[4], throughs[3], throughs[1]]), (throughs[3], throughs[4]))
        self.assertEqual(shown_by(condition, 0, throughs[::-1]), (throughs[0], throughs[4]))
        self.assertEqual(shown_by(condition, 1, throughs[::-1]), (throughs[0], throughs[2]))

    def test_a_part_alone_and_not(self):
        for condition in (PART, ("not", PART), nested(7)):
            self.assertEqual(shown_by(condition, 0, [(1,), (0,)]), ((0,), (1,)))
            self.assertIsNone(shown_by(condition, 0, [(1,), (1,)]))

    def test_the_bounds_of_a_condition_are_among_them(self):
        self.assertEqual({size(condition) for condition in CONDITIONS} & {(8, 8), (8, 1), (4, 8)}, {(8, 8), (8, 1), (4, 8)})

    def test_refusals_in_their_order(self):
        for thing in NO_CONDITIONS:
            for part in (0, -1, None):
                for seen in ([], None, [None]):
                    self.assertRaises(NoCondition, shown_by, thing, part, seen)
        for condition in (EXAMPLE, PART, MIXED, chained(8, True)):
            for part in numbers_of(condition):
                for seen in ([], None, [None]):
                    self.assertRaises(NoNumber, shown_by, condition, part, seen)
        for seen in [thing for thing in NO_WHOLES if not isinstance(thing, list)] + [0, ((0, 2), (1, 1)), {(0, 2): (1, 1)}, "02",
                                                                                    {(0, 2), (1, 1)}, iter([(0, 2)]), ()]:
            self.assertRaises(NoThrough, shown_by, EXAMPLE, 0, seen)
        for thing in NO_THROUGHS:
            for seen in ([thing], [(0, 2), (1, 1), thing], [thing, (0, 2), (1, 1)]):
                self.assertRaises(NoThrough, shown_by, EXAMPLE, 0, seen)


class CanTest(unittest.TestCase):
    def test_of_the_throughs_that_values_make(self):
        found = {True: 0, False: 0}
        for condition in CONDITIONS:
            seen = seen_of_values(condition)
            for part in range(len(all_parts(condition))):
                told = can_show(condition, part)
                self.assertEqual(told, shown_in(condition, part, sorted(set(seen))))
                self.assertEqual(told, shown_by(condition, part, seen))
                found[told is None] += 1
        self.assertGreater(min(found.values()), 100)

    def test_parts_that_always_matter(self):
        for condition in (PART, EXAMPLE, nested(7), read_condition("or = a 1 and < b 2 not = c 3")):
            for part in range(len(all_parts(condition))):
                self.assertIsNotNone(can_show(condition, part))
        self.assertEqual(can_show(EXAMPLE, 0), ((0, 2), (1, 1)))
        self.assertEqual(can_show(EXAMPLE, 1), ((1, 0), (1, 1)))

    def test_parts_that_never_can(self):
        for text, parts in [("= a a", [0]), ("< b b", [0]), ("and = a 1 = a 1", [1]), ("or < a b < a b", [1]), ("not < 2 1", [0]),
                            ("and = a 1 = a 2", [1]), ("or = a 0 not = a 0", [0, 1]), ("and = a a = b b", [0, 1]),
                            ("and < a 1 and = a 0 = b 1", [1]), ("or = a a = b 1", [0, 1]), ("and < a 0 = b 1", [0, 1])]:
            condition = read_condition(text)
            for part in range(len(all_parts(condition))):
                if part in parts:
                    self.assertIsNone(can_show(condition, part), text)
        self.assertIsNotNone(can_show(read_condition("and < a 1 and = a 0 = b 1"), 2))

    def test_refusals_in_their_order(self):
        for thing in NO_CONDITIONS:
            for part in (0, -1, None, []):
                self.assertRaises(NoCondition, can_show, thing, part)
        for condition in (EXAMPLE, PART, MIXED, joined(8)):
            for part in numbers_of(condition):
                self.assertRaises(NoNumber, can_show, condition, part)


class BoundsTest(unittest.TestCase):
    def test_eight_parts_at_once(self):
        started = time.monotonic()
        for condition in (joined(8), joined(8, "or"), chained(8, True), chained(8, False), MIXED):
            seen = [through for through, _ in all_throughs(condition)] * 20
            for part in range(len(all_parts(condition))):
                self.assertIsNotNone(shown_by(condition, part, seen))
                can_show(condition, part)
        self.assertLess(time.monotonic() - started, 5)


if __name__ == "__main__":
    unittest.main()
