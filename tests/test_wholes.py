import unittest

from tests.things import GREAT, NO_WHOLES
from whatran.wholes import is_whole


class IsWholeTest(unittest.TestCase):
    def test_with_both_bounds(self):
        for thing, told in [(2, False), (3, True), (4, True), (5, True), (6, False)]:
            self.assertIs(is_whole(thing, 3, 5), told)

    def test_with_the_low_bound_alone(self):
        for thing, told in [(-3, False), (-2, True), (0, True), (GREAT, True), (-GREAT, False)]:
            self.assertIs(is_whole(thing, -2, None), told)

    def test_with_the_high_bound_alone(self):
        for thing, told in [(-GREAT, True), (0, True), (1, True), (2, False), (GREAT, False)]:
            self.assertIs(is_whole(thing, None, 1), told)

    def test_bounds_of_0_are_bounds(self):
        self.assertIs(is_whole(-1, 0, None), False)
        self.assertIs(is_whole(0, 0, None), True)
        self.assertIs(is_whole(1, None, 0), False)
        self.assertIs(is_whole(0, None, 0), True)
        self.assertIs(is_whole(0, 0, 0), True)

    def test_without_bounds(self):
        for thing in (-GREAT, -1, 0, 1, GREAT, 10 ** 5000):
            self.assertIs(is_whole(thing, None, None), True)

    def test_great_bounds(self):
        self.assertIs(is_whole(GREAT, GREAT, GREAT), True)
        self.assertIs(is_whole(GREAT - 1, GREAT, GREAT + 1), False)
        self.assertIs(is_whole(GREAT + 2, GREAT, GREAT + 1), False)

    def test_nothing_stands_between_a_low_bound_above_the_high_one(self):
        for thing in range(-2, 8):
            self.assertIs(is_whole(thing, 5, 1), False)

    def test_what_is_none_whatever_the_bounds(self):
        for thing in NO_WHOLES:
            for low, high in [(None, None), (0, None), (None, 1), (0, 1), (-5, 5), (1, 0)]:
                self.assertIs(is_whole(thing, low, high), False)


if __name__ == "__main__":
    unittest.main()
