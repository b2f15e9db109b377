import copy
import itertools
import random
import time
import unittest
from fractions import Fraction

from tests.plain import columns_in, fault_in, is_change, is_enough, leads_in, rank_of
from tests.some import LOOP, great_program, some_programs
from tests.test_points import NO_WAYS
from tests.test_programs import main_of
from tests.test_sums import CALLS, UNCALLED, bad_counts, bad_ends, counts_in, runs_of
from tests.things import GREAT, NO_WHOLES
from whatran.errors import NoCounts, NoEnds, NoMarks, NoSums, NotEnough, NoWay, NoWeights
from whatran.marking import Reckoner, best_marks, fewest_marks, hidden_change, is_hidden
from whatran.programs import Program
from whatran.ratios import is_fraction
from whatran.sums import sum_fault

# A routine that is called twice each time round: the counts of its ways are twice those of the while.
TWICE = "def p\ntell a\nend\ndef main\nwhile < a 3\ncall p\ncall p\nset a a + 1\nend\nend"
PLAIN = [
    LOOP, CALLS, UNCALLED, TWICE, "def main\nend", main_of("stop"), main_of("stop", "tell a"),
    main_of("if = a b", "end"), main_of("if = a b", "stop", "else", "tell a", "end"),
    main_of("if and = a b = b c", "tell a", "end"), main_of("while = a a", "end"),
    main_of("while or = a b not = b c", "ask a", "end", "tell a"),
    main_of("while = a a", "ask a", "if = a 1", "stop", "end", "end"),
    main_of("while = a 1", "while = b 1", "end", "end"), main_of("while = a 0", "stop", "end"),
    "def p\nend\ndef main\ncall p\ncall p\nend", "def p\nif = a b\nend\nend\ndef main\ncall p\ncall p\nend",
    "def p\nstop\nend\ndef main\ncall p\ntell a\nend", "def p\nask a\nend\ndef main\nif = a b\ncall p\nend\nend",
    "def p\nwhile = a 0\nend\nend\ndef q\ncall p\nend\ndef main\nwhile = b 0\ncall q\ncall p\nend\nend",
]
SMALL = [text for text in PLAIN + some_programs(41, 120, 14, 3) if len(leads_in(text)) <= 11]
TEXTS = PLAIN + some_programs(42, 30, 60, 8) + [great_program()]
NO_MARKS = [thing for thing in NO_WHOLES if not isinstance(thing, list)] + [
    0, [[]], [0], [None], "0.0.on", ["0.0.on"], ((0, 0, "on"),), {(0, 0, "on"): 1}, {(0, 0, "on")}, [1], [(1, 0)],
    [(0, 0, "on"), (0, 0, "on")], [(1, 0, "no"), (0, 0, "on"), (1, 0, "no")], [(0, 0, "on"), None],
] + [[thing] for thing in NO_WAYS]


def small_programs():
    """Small programs, with their ways and the column of each."""
    for text in SMALL:
        yield text, Program(text), columns_in(text)


def some_marks(chance, program):
    """Any list of ways, in any order."""
    ways = program.ways()
    return chance.sample(ways, chance.randint(0, len(ways)))


def at_bounds():
    """Programs at the document's bounds, made to be hard."""
    yield great_program()
    yield main_of(*["if = a b"] * 8, *["end"] * 8, *["while < a b"] * 8, *["end"] * 8, *["if = b c", "end"] * 13)
    condition = "or " * 7 + "= a b " * 7 + "= a b"
    yield main_of(*[f"while {condition}", "end"] * 3, *["if or or or or or = a b = b c = c a = a 1 = b 1 = c 1", "end"])
    # Each routine calls the one above it twice: the numbers double each time.
    rows = ["def r", "if = a b", "end", "end"]
    for at in range(13):
        rows += [f"def r{'x' * (at % 7)}{'yz'[at // 7]}", f"call {rows[-4].split(' ')[1] if at else 'r'}"]
        rows += ["call " + rows[-1].split(" ")[1], "end"]
    yield "\n".join(rows + ["def main", "call " + rows[-4].split(" ")[1], "end"])


class FewestTest(unittest.TestCase):
    def test_programs_with_no_choice_need_none(self):
        for text in ["def main\nend", main_of("stop"), main_of("ask a", "tell a", "set b 1"), main_of("stop", "tell a"),
                     "def p\nask a\nend\ndef main\ncall p\ncall p\nend", "def p\nend\ndef main\nend"]:
            self.assertEqual(fewest_marks(Program(text)), 0)
            self.assertEqual(best_marks(Program(text)), [])

    def test_plain_numbers(self):
        self.assertEqual(fewest_marks(Program(LOOP)), 1)
        self.assertEqual(fewest_marks(Program(main_of("if = a b", "end"))), 1)
        self.assertEqual(fewest_marks(Program(main_of("if and = a b = b c", "end"))), 2)
        self.assertEqual(fewest_marks(Program(main_of("if = a b", "end", "if = a b", "end"))), 2)
        self.assertEqual(fewest_marks(Program(main_of("while = a a", "end"))), 1)
        # Where the way out is stopped at, the ends tell how often.
        self.assertEqual(fewest_marks(Program(main_of("if = a b", "stop", "end"))), 0)
        self.assertEqual(fewest_marks(Program("def p\nif = a b\nend\nend\ndef main\ncall p\ncall p\nend")), 1)
        # What is never called is met by nobody; of a loop in it that is not known, though.
        self.assertEqual(fewest_marks(Program(UNCALLED)), 1)

    def test_as_few_as_no_change_is_hidden_from(self):
        for text in TEXTS:
            columns = columns_in(text)
            self.assertEqual(fewest_marks(Program(text)), len(columns) - rank_of(columns.values()))

    def test_no_fewer_are_enough_on_small_programs(self):
        for _, program, columns in small_programs():
            many = fewest_marks(program)
            enough = {len(marks) for size in range(len(columns) + 1) if size in (many - 1, many)
                      for marks in itertools.combinations(columns, size) if is_enough(columns, marks)}
            self.assertEqual(enough, {many})


class BestTest(unittest.TestCase):
    def check(self, program, columns, weights):
        told = best_marks(program, weights=weights)
        self.assertIs(type(told), list)
        self.assertEqual(told, sorted(set(told)))
        self.assertEqual(len(told), fewest_marks(program))
        self.assertTrue(is_enough(columns, told))
        return told

    def test_as_few_rising_and_enough(self):
        chance = random.Random(4)
        for text in TEXTS:
            program, columns = Program(text), columns_in(text)
            ways = program.ways()
            for weights in (None, {way: 0 for way in ways}, {way: 7 for way in ways},
                            {way: chance.randint(0, 9) for way in ways},
                            {way: 10 ** 59 - chance.randint(0, 9) for way in ways}):
                self.check(program, columns, weights)
            self.assertEqual(best_marks(program), self.check(program, columns, None))

    def test_the_sum_of_the_weights_is_least_among_all_lists(self):
        chance = random.Random(5)
        for _, program, columns in small_programs():
            many = fewest_marks(program)
            lists = [marks for marks in itertools.combinations(columns, many) if is_enough(columns, marks)]
            for draw in (lambda: 0, lambda: chance.randint(0, 3), lambda: chance.randint(0, 100),
                         lambda: chance.choice([0, 10 ** 58, 10 ** 58 + 1])):
                weights = {way: draw() for way in columns}
                told = self.check(program, columns, weights)
                due = min(sum(weights[way] for way in marks) for marks in lists)
                self.assertEqual(sum(weights[way] for way in told), due)

    def test_heavy_ways_are_left_out(self):
        program = Program(LOOP)
        for mark, others in [((1, 0, "yes"), 5), ((2, 0, "on"), 5)]:
            weights = {way: others for way in program.ways()}
            weights[mark] = 4
            self.assertEqual(best_marks(program, weights=weights), [mark])

    def test_weights_that_are_none(self):
        program = Program(LOOP)
        zeros = {way: 0 for way in program.ways()}
        for thing in list(bad_counts(program)) + [{**zeros, (1, 0, "no"): -1}, {way: -1 for way in zeros}]:
            if thing is not None:
                with self.assertRaises(NoWeights):
                    best_marks(program, weights=thing)
        for thing in NO_WHOLES:
            if thing is not None:
                with self.assertRaises(NoWeights):
                    best_marks(program, weights=thing)

    def test_the_list_is_a_new_one_and_weights_stay(self):
        program = Program(great_program())
        weights = {way: row for row, way in enumerate(program.ways())}
        before = dict(weights)
        told = best_marks(program, weights=weights)
        again = list(told)
        told.clear()
        self.assertEqual(best_marks(program, weights=weights), again)
        self.assertEqual(weights, before)


class HiddenTest(unittest.TestCase):
    def check(self, text, marks):
        program = Program(text)
        told = hidden_change(program, marks)
        if told is None:
            self.assertTrue(is_enough(columns_in(text), marks))
            return None
        self.assertIs(type(told), dict)
        self.assertEqual(set(told), set(program.ways()))
        self.assertEqual({type(number) for number in told.values()}, {int})
        self.assertTrue(is_change(text, marks, told))
        self.assertIsNone(sum_fault(program, told, []))
        self.assertIs(is_hidden(program, marks, told), True)
        return told

    def test_none_of_enough_marks_and_of_all_ways(self):
        for text in TEXTS:
            program = Program(text)
            self.assertIsNone(self.check(text, best_marks(program)))
            self.assertIsNone(self.check(text, program.ways()[::-1]))

    def test_a_change_where_one_of_the_fewest_is_wanting(self):
        for text in TEXTS:
            marks = best_marks(Program(text))
            for mark in marks:
                self.assertIsNotNone(self.check(text, [way for way in marks if way != mark]))

    def test_just_where_the_marks_are_not_enough(self):
        chance = random.Random(6)
        for text, program, columns in small_programs():
            for _ in range(12):
                marks = some_marks(chance, program)
                told = self.check(text, marks)
                self.assertEqual(told is None, is_enough(columns, marks))

    def test_changes_that_are_not_made_of_ones(self):
        told = hidden_change(Program(TWICE), [])
        self.assertIn(2, {abs(told[(0, 0, "on")] // number) for number in told.values() if number})

    def test_multiples_and_sums_of_changes(self):
        for text in TEXTS:
            program = Program(text)
            change = hidden_change(program, [])
            if change is None:
                continue
            for times in (-1, 2, -7, GREAT, -GREAT):
                self.assertIs(is_hidden(program, [], {way: times * change[way] for way in change}), True)
            self.assertIs(is_hidden(program, [], {way: 0 * change[way] for way in change}), False)
            counts = counts_in(program, runs_of(program, random.Random(1), 1))
            mixed = {way: counts[way] - GREAT * change[way] for way in counts}
            due = fault_in(text, mixed, []) is None
            self.assertIs(is_hidden(program, [], mixed), due)

    def test_what_is_no_hidden_change(self):
        chance = random.Random(7)
        for text in TEXTS[:30]:
            program = Program(text)
            zeros = {way: 0 for way in program.ways()}
            self.assertIs(is_hidden(program, [], zeros), False)
            change = hidden_change(program, [])
            if change is None:
                continue
            for way in change:
                self.assertIs(is_hidden(program, [way], change), change[way] == 0)
                changed = {**change, way: change[way] + chance.choice([-1, 1])}
                self.assertIs(is_hidden(program, [], changed), is_change(text, [], changed))
                without = {other: change[other] for other in change if other != way}
                self.assertIs(is_hidden(program, [], without), False)
                for thing in NO_WHOLES + [bool(change[way]), float(change[way]), str(change[way])]:
                    self.assertIs(is_hidden(program, [], {**change, way: thing}), False)

    def test_things_that_are_no_dict_of_numbers(self):
        program = Program(LOOP)
        for thing in list(bad_counts(program)) + NO_WHOLES:
            self.assertIs(is_hidden(program, [], thing), False)
        change = hidden_change(program, [])
        self.assertIs(is_hidden(program, [], {**change, (9, 9, "on"): 0}), False)
        for key in [(True, 0, "yes"), (1, False, "yes"), (1.0, 0, "yes")]:
            other = {way: change[way] for way in change if way != (1, 0, "yes")}
            self.assertIs(is_hidden(program, [], {**other, key: change[(1, 0, "yes")]}), False)

    def test_marks_that_are_none_come_first(self):
        program = Program(LOOP)
        change = hidden_change(program, [])
        for marks in NO_MARKS:
            self.assertRaises(NoMarks, hidden_change, program, marks)
            self.assertRaises(NoMarks, Reckoner, program, marks)
            for thing in (change, None, 0, [], {}):
                self.assertRaises(NoMarks, is_hidden, program, marks, thing)

    def test_a_told_change_is_a_new_one_and_marks_stay(self):
        program = Program(great_program())
        marks = best_marks(program)[3:][::-1]
        before = list(marks)
        told = hidden_change(program, marks)
        again = dict(told)
        told.clear()
        self.assertEqual(hidden_change(program, marks), again)
        is_hidden(program, marks, again)
        self.assertEqual(marks, before)


class ReckonerTest(unittest.TestCase):
    def test_not_enough_marks(self):
        chance = random.Random(8)
        for text, program, columns in small_programs():
            for _ in range(8):
                marks = some_marks(chance, program)
                if is_enough(columns, marks):
                    Reckoner(program, marks)
                    continue
                with self.assertRaises(NotEnough) as caught:
                    Reckoner(program, marks)
                self.assertTrue(is_change(text, marks, caught.exception.change))
                self.assertIs(is_hidden(program, marks, caught.exception.change), True)

    def test_runs_are_reckoned_from_the_fewest_marks(self):
        chance = random.Random(9)
        for text in TEXTS:
            program = Program(text)
            weights = {way: chance.randint(0, 5) for way in program.ways()}
            for marks in (best_marks(program), best_marks(program, weights=weights)[::-1]):
                reckoner = Reckoner(program, marks)
                for many in (0, 1, 1, 1, 2, 5):
                    runs = runs_of(program, chance, many)
                    counts = counts_in(program, runs)
                    told = reckoner.reckoned({way: counts[way] for way in marks}, [seen.ends() for seen in runs])
                    self.assertEqual(told, counts)

    def test_runs_are_reckoned_from_more_marks(self):
        chance = random.Random(10)
        for text in TEXTS:
            program = Program(text)
            ways = program.ways()
            for size in (len(ways), len(ways) // 2):
                marks = best_marks(program)
                marks = marks + [way for way in chance.sample(ways, size) if way not in marks]
                runs = runs_of(program, chance, 2)
                counts = counts_in(program, runs)
                told = Reckoner(program, marks).reckoned(
                    {way: counts[way] for way in marks}, [seen.ends() for seen in runs])
                self.assertEqual(told, counts)

    def test_numbers_below_0_and_great_ones(self):
        chance = random.Random(11)
        for text in TEXTS:
            program = Program(text)
            seen = runs_of(program, chance, 1)[0]
            counts = counts_in(program, [seen])
            change = hidden_change(program, [])
            for times in (-3, GREAT, -GREAT):
                due = {way: counts[way] + times * change[way] if change else counts[way] for way in counts}
                for marks in (best_marks(program), program.ways()):
                    told = Reckoner(program, marks).reckoned({way: due[way] for way in marks}, [seen.ends()])
                    self.assertEqual(told, due)

    def test_counts_that_would_not_be_whole(self):
        program = Program(TWICE)
        marks = [(0, 0, "on")]
        reckoner = Reckoner(program, marks)
        self.assertEqual(reckoner.reckoned({(0, 0, "on"): 6}, [()])[(4, 0, "yes")], 3)
        for number in (1, 5, -1, GREAT):
            self.assertRaises(NoSums, reckoner.reckoned, {(0, 0, "on"): number}, [()])
        # A run that stands behind its first call met p once more than the others.
        end = ((6, 0), (1, 0))
        self.assertRaises(NoSums, reckoner.reckoned, {(0, 0, "on"): 5}, [end])
        self.assertEqual(reckoner.reckoned({(0, 0, "on"): 6}, [end])[(4, 0, "yes")], 3)

    def test_numbers_that_do_not_go_with_the_others(self):
        chance = random.Random(13)
        for text, program, columns in small_programs():
            for _ in range(6):
                marks = some_marks(chance, program)
                if not is_enough(columns, marks):
                    continue
                seen = runs_of(program, chance, 1)[0]
                counts = counts_in(program, [seen])
                numbers = {way: counts[way] + chance.choice([0, 0, 1, -1]) for way in marks}
                reckoner = Reckoner(program, marks)
                try:
                    told = reckoner.reckoned(numbers, [seen.ends()])
                except NoSums:
                    self.assertFalse(self.has_whole(text, columns, numbers, [seen.ends()]))
                else:
                    self.assertEqual({way: told[way] for way in marks}, numbers)
                    self.assertIsNone(fault_in(text, told, [seen.ends()]))

    def has_whole(self, text, columns, numbers, ends):
        """Whether there are whole counts, up to ten on each side of 0, with these numbers."""
        others = [way for way in columns if way not in numbers]
        for tried in itertools.product(range(-10, 11), repeat=min(len(others), 2)):
            counts = {**numbers, **dict(zip(others, tried))}
            if len(counts) == len(columns) and fault_in(text, counts, ends) is None:
                return True
        return False

    def test_all_ways_as_marks_must_keep_the_sums(self):
        program = Program(LOOP)
        reckoner = Reckoner(program, program.ways())
        counts = {(0, 0, "on"): 1, (1, 0, "no"): 1, (1, 0, "yes"): 4, (2, 0, "on"): 4}
        self.assertEqual(reckoner.reckoned(counts, [()]), counts)
        for way in counts:
            self.assertRaises(NoSums, reckoner.reckoned, {**counts, way: 7}, [()])
        self.assertRaises(NoSums, reckoner.reckoned, counts, [])
        self.assertRaises(NoSums, reckoner.reckoned, counts, [(), ()])

    def test_refusals_in_their_order(self):
        program = Program(CALLS)
        marks = best_marks(program)
        reckoner = Reckoner(program, marks)
        good = {way: 0 for way in marks}
        bad = [{way: 0 for way in marks[1:]}, {**good, (0, 0, "on"): 0} if (0, 0, "on") not in good else {}, {},
               {**good, "x": 1}, {way: 0 for way in program.ways()}, list(good), None, 0, True, [], (), "x"]
        bad += [{**good, marks[0]: thing} for thing in NO_WHOLES] + NO_WHOLES
        part = marks[0]
        bad += [{**{way: 0 for way in marks[1:]}, (float(part[0]), part[1], part[2]): 0}]
        for numbers in bad:
            for ends in ([], [()], None, [0]):
                self.assertRaises(NoCounts, reckoner.reckoned, numbers, ends)
        for ends in bad_ends(program):
            self.assertRaises(NoEnds, reckoner.reckoned, good, ends)
        self.assertRaises(NoEnds, Reckoner(Program(TWICE), [(0, 0, "on")]).reckoned, {(0, 0, "on"): 1}, [0])

    def test_a_truth_as_the_row_of_a_mark(self):
        reckoner = Reckoner(Program(LOOP), [(1, 0, "yes")])
        for key in [(True, 0, "yes"), (1, False, "yes"), (1.0, 0, "yes")]:
            self.assertRaises(NoCounts, reckoner.reckoned, {key: 1}, [()])

    def test_what_is_handed_in_or_told_may_be_changed_behind(self):
        program = Program(great_program())
        marks = best_marks(program)
        given = list(marks)
        reckoner = Reckoner(program, given)
        seen = runs_of(program, random.Random(2), 1)[0]
        counts = counts_in(program, [seen])
        numbers = {way: counts[way] for way in marks}
        ends = [seen.ends()]
        before = copy.deepcopy((given, numbers, ends))
        told = reckoner.reckoned(numbers, ends)
        shares = reckoner.shares((0, 0, "on"))
        self.assertEqual((given, numbers, ends), before)
        again = dict(shares)
        given.clear()
        numbers.clear()
        ends.append(())
        told.clear()
        shares.clear()
        self.assertEqual(reckoner.reckoned(before[1], before[2]), counts)
        self.assertEqual(reckoner.shares((0, 0, "on")), again)


class SharesTest(unittest.TestCase):
    def test_a_fraction_for_each_mark(self):
        for text in TEXTS:
            program = Program(text)
            for marks in (best_marks(program), program.ways(), best_marks(program)[::-1]):
                reckoner = Reckoner(program, marks)
                for way in program.ways():
                    told = reckoner.shares(way)
                    self.assertIs(type(told), dict)
                    self.assertEqual(set(told), set(marks))
                    self.assertTrue(all(is_fraction(share) for share in told.values()))

    def test_of_a_mark_itself(self):
        for text in TEXTS:
            program = Program(text)
            marks = best_marks(program)
            reckoner = Reckoner(program, marks)
            for way in marks:
                due = {mark: (1, 1) if mark == way else (0, 1) for mark in marks}
                self.assertEqual(reckoner.shares(way), due)

    def test_a_ways_number_is_the_sum_of_its_shares(self):
        chance = random.Random(14)
        for text, program, columns in small_programs():
            ways = program.ways()
            changes = [hidden_change(program, chance.sample(ways, chance.randint(0, 1))) for _ in range(6)]
            for marks in [best_marks(program)] + [some_marks(chance, program) for _ in range(4)]:
                if not is_enough(columns, marks):
                    continue
                reckoner = Reckoner(program, marks)
                for way, change in itertools.product(ways, [change for change in changes if change]):
                    shares = reckoner.shares(way)
                    total = sum(Fraction(*shares[mark]) * change[mark] for mark in marks)
                    self.assertEqual(total, change[way])

    def test_shares_that_are_no_whole_numbers(self):
        reckoner = Reckoner(Program(TWICE), [(0, 0, "on")])
        self.assertEqual(reckoner.shares((4, 0, "yes")), {(0, 0, "on"): (1, 2)})
        self.assertEqual(reckoner.shares((0, 0, "on")), {(0, 0, "on"): (1, 1)})
        self.assertEqual(reckoner.shares((4, 0, "no")), {(0, 0, "on"): (0, 1)})

    def test_ways_that_are_none(self):
        reckoner = Reckoner(Program(LOOP), [(1, 0, "yes")])
        for thing in NO_WAYS:
            self.assertRaises(NoWay, reckoner.shares, thing)


class BoundsTest(unittest.TestCase):
    def test_each_answers_at_once(self):
        for text in at_bounds():
            program = Program(text)
            started = time.monotonic()
            marks = best_marks(program, weights={way: 10 ** 59 - way[0] for way in program.ways()})
            self.assertEqual(len(marks), fewest_marks(program))
            reckoner = Reckoner(program, marks)
            self.assertTrue(all(is_hidden(program, [], hidden_change(program, marks[:at])) for at in range(len(marks))))
            ends = [(program.begin("main"),)]
            zeros = reckoner.reckoned({way: 0 for way in marks}, ends)
            self.assertEqual(zeros, {way: 0 for way in program.ways()})
            for way in program.ways():
                reckoner.shares(way)
            self.assertLess(time.monotonic() - started, 10)

    def test_numbers_that_double_each_time(self):
        program = Program(list(at_bounds())[-1])
        self.assertGreater(len(program), 55)
        reckoner = Reckoner(program, [(1, 0, "yes")])
        told = reckoner.reckoned({(1, 0, "yes"): 5}, [()])
        self.assertEqual(told[(0, 0, "on")], 2 ** 13)
        self.assertEqual(told[(1, 0, "no")], 2 ** 13 - 5)


if __name__ == "__main__":
    unittest.main()
