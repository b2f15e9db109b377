import copy
import unittest
from fractions import Fraction

from tests.things import GREAT, NO_WHOLES
from whatran.errors import NoFraction
from whatran.ratios import fraction, is_fraction, minus, plus, shared, times

NO_FRACTIONS = NO_WHOLES + [
    0, 1, -1, GREAT, (2, 4), (0, 2), (0, -1), (3, -1), (1, 0), (0, 0), (-2, 4), (GREAT * 3, 6),
    (), (1,), (1, 2, 3), (1, 1, 1), [1, 2], [0, 1], (True, 2), (1, True), (False, 1), (True, True),
    ("1", 2), (1, "2"), (1.0, 2), (1, 2.0), (None, 1), (1, None), ([1], 2), (1, [2]), ({}, 1),
    ((1, 2), 1), "12", b"12", {1: 2, 2: 3}, {1, 2}, range(1, 3),
]

OPERATIONS = [
    (plus, lambda one, other: one + other),
    (minus, lambda one, other: one - other),
    (times, lambda one, other: one * other),
    (shared, lambda one, other: one / other),
]


def pair(worth):
    return (worth.numerator, worth.denominator)


def some_fractions():
    small = [Fraction(top, bottom) for top in range(-4, 5) for bottom in range(1, 5)]
    great = [Fraction(GREAT, 6), Fraction(-6, GREAT), Fraction(GREAT), Fraction(-GREAT, GREAT + 2)]
    return sorted(set(small + great))


class FractionTest(unittest.TestCase):
    def test_bottom_left_out(self):
        for top in (-3, 0, 1, 7, GREAT):
            self.assertEqual(fraction(top), (top, 1))

    def test_lowest_terms_of_either_sign(self):
        for top in range(-12, 13):
            for bottom in list(range(-12, 0)) + list(range(1, 13)):
                told = fraction(top, bottom)
                self.assertEqual(told, pair(Fraction(top, bottom)))
                self.assertIs(is_fraction(told), True)

    def test_top_0(self):
        for bottom in (-GREAT, -4, -1, 1, 4, GREAT):
            self.assertEqual(fraction(0, bottom), (0, 1))

    def test_numbers_of_sixty_figures(self):
        self.assertEqual(len(str(GREAT)), 60)
        self.assertEqual(fraction(GREAT * 6, GREAT * -4), (-3, 2))
        self.assertEqual(fraction(GREAT, GREAT + 1), (GREAT, GREAT + 1))
        self.assertEqual(fraction(-GREAT, -GREAT), (1, 1))
        self.assertEqual(fraction(10 ** 59, 2 * 10 ** 58), (5, 1))

    def test_tells_a_tuple_of_ints(self):
        told = fraction(6, -4)
        self.assertIs(type(told), tuple)
        self.assertEqual([type(number) for number in told], [int, int])

    def test_a_bottom_of_0(self):
        for top in (-1, 0, 1, GREAT):
            with self.assertRaises(NoFraction):
                fraction(top, 0)

    def test_what_is_no_whole_number(self):
        for thing in NO_WHOLES:
            for top, bottom in [(thing, 1), (1, thing), (thing, thing), (thing, 0), (0, thing)]:
                with self.assertRaises(NoFraction):
                    fraction(top, bottom)
            with self.assertRaises(NoFraction):
                fraction(thing)


class IsFractionTest(unittest.TestCase):
    def test_lowest_terms_with_a_bottom_from_1_on(self):
        for top in range(-9, 10):
            for bottom in range(-9, 10):
                lowest = bottom >= 1 and Fraction(top, bottom).denominator == bottom
                self.assertIs(is_fraction((top, bottom)), lowest)
        self.assertIs(is_fraction((GREAT, GREAT + 1)), True)
        self.assertIs(is_fraction((-GREAT, 1)), True)

    def test_what_is_none(self):
        for thing in NO_FRACTIONS:
            self.assertIs(is_fraction(thing), False)


class OperationsTest(unittest.TestCase):
    def test_as_numbers_are_reckoned(self):
        for one in some_fractions():
            for other in some_fractions():
                for function, reckon in OPERATIONS:
                    if function is shared and other == 0:
                        continue
                    told = function(pair(one), pair(other))
                    self.assertEqual(told, pair(reckon(one, other)))
                    self.assertIs(is_fraction(told), True)

    def test_plain_examples(self):
        self.assertEqual(plus((1, 2), (1, 3)), (5, 6))
        self.assertEqual(plus((1, 2), (-1, 2)), (0, 1))
        self.assertEqual(minus((1, 2), (1, 3)), (1, 6))
        self.assertEqual(minus((1, 3), (1, 2)), (-1, 6))
        self.assertEqual(times((2, 3), (-3, 4)), (-1, 2))
        self.assertEqual(shared((1, 2), (-3, 4)), (-2, 3))

    def test_what_is_told_is_handed_in_again(self):
        worth, sum_told = Fraction(1), (1, 1)
        for number in range(2, 200):
            worth = worth * GREAT + Fraction(1, number)
            sum_told = plus(times(sum_told, (GREAT, 1)), fraction(1, number))
        self.assertEqual(sum_told, pair(worth))

    def test_shared_by_0(self):
        for one in [(0, 1), (1, 2), (-3, 1)]:
            with self.assertRaises(NoFraction):
                shared(one, (0, 1))
        self.assertEqual(shared((0, 1), (-1, 2)), (0, 1))

    def test_what_is_no_fraction(self):
        for function, _ in OPERATIONS:
            for thing in NO_FRACTIONS:
                for one, other in [(thing, (1, 2)), ((1, 2), thing), (thing, thing)]:
                    with self.assertRaises(NoFraction):
                        function(one, other)

    def test_what_is_handed_in_stays(self):
        for thing in ([1, 2], {1: 2}, ([1], 2)):
            before = copy.deepcopy(thing)
            with self.assertRaises(NoFraction):
                plus(thing, thing)
            self.assertEqual(thing, before)


if __name__ == "__main__":
    unittest.main()
