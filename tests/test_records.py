import copy
import random
import unittest

from tests.plain import is_enough, columns_in
from tests.some import LOOP, great_program, some_inputs, some_programs
from tests.test_marking import NO_MARKS, PLAIN, TWICE, at_bounds, some_marks
from tests.test_points import NO_POINTS, NO_WAYS
from tests.test_programs import main_of
from tests.test_sums import CALLS, bad_ends, counts_in, runs_of
from tests.things import GREAT, NO_WHOLES
from whatran.errors import NoMarks, NoRecord, NoSums, NotEnough
from whatran.marking import Reckoner, best_marks, hidden_change, is_hidden
from whatran.programs import Program
from whatran.records import counts_of, record_by_marks, record_by_numbers
from whatran.runs import run_program

TEXTS = PLAIN + some_programs(51, 60, 40, 5) + [great_program()]

# Asks twice, in a routine; a condition of two parts; a stop in a block.
MIXED = ("def p\nask a\nend\n"
         "def main\ncall p\nwhile and < a 3 not = b 2\ncall p\nset b b + 1\nend\nif = a 0\nstop\nend\nend")


def some_runs(start, texts=TEXTS, each=3):
    chance = random.Random(start)
    for text in texts:
        program = Program(text)
        for seen in runs_of(program, chance, each):
            yield program, seen


class ByMarksTest(unittest.TestCase):
    def check(self, program, seen, marks):
        taken = seen.taken()
        told = record_by_marks(program, seen, marks)
        due = [(way, taken.get(way, 0)) for way in sorted(marks)]
        self.assertEqual(told, ("marks", seen.outcome(), seen.ends(), due))
        self.assertEqual([type(thing) for thing in told], [str, str, tuple, list])
        self.assertEqual(counts_of(program, told), counts_in(program, [seen]))

    def test_with_the_fewest_more_and_all_ways_in_any_order(self):
        chance = random.Random(1)
        for program, seen in some_runs(61):
            fewest = best_marks(program)
            more = fewest + [way for way in some_marks(chance, program) if way not in fewest]
            for marks in (fewest, more, more[::-1], program.ways(), chance.sample(more, len(more))):
                self.check(program, seen, marks)

    def test_marks_that_are_none_then_not_enough(self):
        program = Program(LOOP)
        seen = run_program(program, [])
        for marks in NO_MARKS:
            self.assertRaises(NoMarks, record_by_marks, program, seen, marks)
        with self.assertRaises(NotEnough) as caught:
            record_by_marks(program, seen, [(0, 0, "on")])
        self.assertIs(is_hidden(program, [(0, 0, "on")], caught.exception.change), True)

    def test_marks_stay_and_the_list_told_is_a_new_one(self):
        program = Program(great_program())
        seen = run_program(program, [1, 2])
        marks = best_marks(program)[::-1]
        before = list(marks)
        told = record_by_marks(program, seen, marks)
        again = copy.deepcopy(told)
        told[3].clear()
        self.assertEqual(marks, before)
        self.assertEqual(record_by_marks(program, seen, marks), again)


class ByNumbersTest(unittest.TestCase):
    def test_as_through_tells(self):
        for program, seen in some_runs(62):
            told = record_by_numbers(program, seen)
            due = sorted(key + (many,) for key, many in seen.through().items())
            self.assertEqual(told, ("numbers", seen.outcome(), seen.ends(), due))
            self.assertEqual([type(thing) for thing in told], [str, str, tuple, list])
            self.assertEqual(counts_of(program, told), counts_in(program, [seen]))

    def test_each_fuel(self):
        for text in (MIXED, CALLS, great_program()):
            program = Program(text)
            for fuel in range(1, 60):
                seen = run_program(program, [0, 1, 0, 0, 1], fuel=fuel)
                counts = counts_in(program, [seen])
                self.assertEqual(counts_of(program, record_by_numbers(program, seen)), counts)
                self.assertEqual(counts_of(program, record_by_marks(program, seen, best_marks(program))), counts)

    def test_the_list_told_is_a_new_one(self):
        program = Program(MIXED)
        seen = run_program(program, [0, 0, 0, 3])
        told = record_by_numbers(program, seen)
        again = copy.deepcopy(told)
        told[3].clear()
        self.assertEqual(record_by_numbers(program, seen), again)
        self.assertNotEqual(again[3], [])


class CountsTest(unittest.TestCase):
    def test_a_new_dict_of_all_ways(self):
        program = Program(LOOP)
        record = ("marks", "ended", (), [((1, 0, "yes"), 2)])
        told = counts_of(program, record)
        self.assertEqual(told, {(0, 0, "on"): 1, (1, 0, "no"): 1, (1, 0, "yes"): 2, (2, 0, "on"): 2})
        told.clear()
        self.assertEqual(len(counts_of(program, record)), 4)
        self.assertEqual(record, ("marks", "ended", (), [((1, 0, "yes"), 2)]))

    def test_ways_that_no_through_takes_are_0(self):
        program = Program(main_of("if and = a 1 = b 1", "tell a", "end", "while = a 1", "end"))
        told = counts_of(program, record_by_numbers(program, run_program(program, [])))
        self.assertEqual({way for way in told if told[way]}, {(0, 0, "on"), (1, 0, "no"), (4, 0, "no")})

    def test_numbers_of_sixty_figures(self):
        program = Program(LOOP)
        self.assertEqual(counts_of(program, ("marks", "ended", (), [((1, 0, "yes"), GREAT)]))[(2, 0, "on")], GREAT)
        told = counts_of(program, ("numbers", "ended", (), [(1, 0, 1), (1, 1, GREAT)]))
        self.assertEqual(told[(2, 0, "on")], GREAT)

    def test_the_bounds_of_the_document(self):
        for text in at_bounds():
            program = Program(text)
            for fuel in (1, 500, 5000):
                seen = run_program(program, some_inputs(random.Random(fuel)), fuel=fuel)
                counts = counts_in(program, [seen])
                for record in (record_by_numbers(program, seen), record_by_marks(program, seen, program.ways()),
                               record_by_marks(program, seen, best_marks(program))):
                    self.assertEqual(counts_of(program, record), counts)


class NoRecordTest(unittest.TestCase):
    def setUp(self):
        self.program = Program(MIXED)
        self.runs = {}
        for inputs, fuel in [([0, 0, 3], 500), ([3, 0], 500), ([], 500), ([0, 0, 0, 0], 500), ([0], 9), ([0], 2)]:
            seen = run_program(self.program, inputs, fuel=fuel)
            self.runs.setdefault(seen.outcome(), seen)
        self.assertEqual(set(self.runs), {"ended", "stopped", "dry", "spent"})
        self.records = []
        for seen in self.runs.values():
            self.records.append(record_by_numbers(self.program, seen))
            self.records.append(record_by_marks(self.program, seen, best_marks(self.program)))
            self.records.append(record_by_marks(self.program, seen, self.program.ways()))

    def none(self, record, program=None):
        self.assertRaises(NoRecord, counts_of, program or self.program, record)

    def test_they_are_some(self):
        for record in self.records:
            self.assertIs(type(counts_of(self.program, record)), dict)

    def test_things_of_other_sorts_and_lengths(self):
        for thing in NO_WHOLES + [0, "marks", ("marks",), ("marks", "ended", ()), {}, ((), (), (), ())]:
            self.none(thing)
        for record in self.records:
            self.none(list(record))
            self.none(record[:3])
            self.none(record + (0,))
            self.none(record + ([],))
            self.none(record[1:] + record[:1])
            self.none((record,))

    def test_sorts_and_outcomes_that_are_none(self):
        for record in self.records:
            for thing in NO_WHOLES + ["mark", "Marks", "number", "ways", 0, ["marks"], ("numbers",), b"marks"]:
                self.none((thing,) + record[1:])
                self.none((record[0], thing) + record[2:])
            self.none(({"marks": "numbers", "numbers": "marks"}[record[0]],) + record[1:])

    def test_outcomes_that_do_not_go_with_the_ends(self):
        for record in self.records:
            ends = record[2]
            word = self.program.word(ends[-1][0]) if ends else None
            for outcome in ("ended", "dry", "stopped", "spent"):
                if outcome == record[1] or (outcome == "spent" and word == "ask"):
                    counts_of(self.program, (record[0], outcome) + record[2:])
                else:
                    self.none((record[0], outcome) + record[2:])
            for other in ((), ((3, 0),), ((4, 0),), ((4, 0), (1, 0)), ((10, 0),), ((11, 0),)):
                if other != ends:
                    if (other == ()) != (record[1] == "ended"):
                        self.none(record[:2] + (other,) + record[3:])

    def test_dry_only_at_an_ask(self):
        program = Program(main_of("ask a", "tell a"))
        for row, outcomes in [(0, ["spent"]), (1, ["dry", "spent"]), (2, ["spent"])]:
            for outcome in ("ended", "dry", "stopped", "spent"):
                record = ("numbers", outcome, ((row, 0),), [])
                if outcome in outcomes:
                    self.assertEqual(sum(counts_of(program, record).values()), row)
                else:
                    self.none(record, program)

    def test_ends_that_are_none(self):
        program = Program(CALLS)
        for ends in [ends[0] for ends in bad_ends(program) if isinstance(ends, list) and ends]:
            for outcome in ("ended", "dry", "stopped", "spent"):
                self.none(("numbers", outcome, ends, []), program)
                self.none(("marks", outcome, ends, [(way, 0) for way in program.ways()]), program)
        for ends in NO_WHOLES + [(thing,) for thing in NO_POINTS if thing != (0, 0)]:
            if ends != ():
                self.none(("numbers", "spent", ends, []), Program(LOOP))
        self.none(("numbers", "spent", [], []))
        self.none(("numbers", "ended", [], [(6, 0, 1), (10, 0, 1)]))

    def test_numbers_that_are_no_list_of_tuples(self):
        for record in self.records:
            numbers = record[3]
            for thing in [tuple(numbers), {entry: 1 for entry in numbers}, None, 0, "x", len(numbers), True]:
                self.none(record[:3] + (thing,))
            for at in range(len(numbers)):
                entry = numbers[at]
                for other in [list(entry), entry[:-1], entry + (1,), entry + (), (entry,), None, 0, "x", [], {}, set()]:
                    if other != entry:
                        self.none(record[:3] + (numbers[:at] + [other] + numbers[at + 1:],))

    def test_numbers_not_rising_or_told_twice(self):
        for record in self.records:
            numbers = record[3]
            if len(numbers) > 1:
                self.none(record[:3] + (numbers[::-1],))
                self.none(record[:3] + (numbers[1:] + numbers[:1],))
            for at in range(len(numbers)):
                self.none(record[:3] + (numbers[:at] + [numbers[at]] + numbers[at:],))

    def test_how_often_that_is_none(self):
        for record in self.records:
            for at, entry in enumerate(record[3]):
                bad = [thing for thing in NO_WHOLES] + [-1, -GREAT]
                if record[0] == "numbers":
                    bad.append(0)
                for thing in bad:
                    numbers = record[3][:at] + [entry[:-1] + (thing,)] + record[3][at + 1:]
                    self.none(record[:3] + (numbers,))

    def test_ways_that_are_none(self):
        program = Program(LOOP)
        for way in NO_WAYS:
            self.none(("marks", "ended", (), [(way, 2)]), program)
        for way in [(True, 0, "yes"), (1, False, "yes"), (1.0, 0, "yes")]:
            self.none(("marks", "ended", (), [(way, 2)]), program)
        counts_of(program, ("marks", "ended", (), [((1, 0, "yes"), 2)]))

    def test_marks_that_are_not_enough(self):
        chance = random.Random(3)
        columns = columns_in(MIXED)
        for seen in self.runs.values():
            taken = seen.taken()
            for _ in range(30):
                marks = sorted(some_marks(chance, self.program))
                record = ("marks", seen.outcome(), seen.ends(), [(way, taken.get(way, 0)) for way in marks])
                if is_enough(columns, marks):
                    self.assertEqual(counts_of(self.program, record), counts_in(self.program, [seen]))
                else:
                    self.none(record)
            self.none(("marks", seen.outcome(), seen.ends(), []))

    def test_rows_without_a_condition_and_numbers_that_it_has_not(self):
        program = Program(MIXED)
        # Row 5 has a condition with the throughs 0, 1, 2, row 9 one with 0, 1.
        self.assertEqual(program.word(5) + program.word(9), "whileif")
        good = ("numbers", "ended", (), [(5, 0, 1), (9, 0, 1)])
        counts_of(program, good)
        for row in NO_WHOLES + [0, 1, 4, 6, 8, 10, 11, 12, 13, -1, -8, GREAT, "9", (9,)]:
            self.none(("numbers", "ended", (), [(5, 0, 1), (row, 0, 1)]), program)
            self.none(("numbers", "ended", (), [(row, 0, 1)]), program)
        for number in NO_WHOLES + [2, 3, -1, GREAT]:
            self.none(("numbers", "ended", (), [(5, 0, 1), (9, number, 1)]), program)
        for number in (3, 4, -1):
            self.none(("numbers", "ended", (), [(5, number, 1), (9, 0, 1)]), program)

    def test_numbers_with_which_no_counts_keep_the_sums(self):
        for record in self.records:
            for at, entry in enumerate(record[3]):
                for by in (-1, 1, 2, GREAT):
                    numbers = list(record[3])
                    numbers[at] = entry[:-1] + (entry[-1] + by,)
                    self.compare(record[:3] + (numbers,))
                if record[0] == "numbers":
                    self.compare(record[:3] + (record[3][:at] + record[3][at + 1:],))
        self.none(("numbers", "ended", (), []))
        self.none(("numbers", "ended", (), [(5, 0, 1), (9, 0, 2)]))
        self.none(("numbers", "ended", (), [(5, 0, 1), (9, 1, 1)]))

    def compare(self, record):
        """Counts are told just where Reckoner tells some that are not below 0."""
        _, _, ends, entries = record
        least = 1 if record[0] == "numbers" else 0
        counts = None
        if all(entry[-1] >= least for entry in entries):
            counts = self.reckoned(record, ends, entries)
        if counts is None or min(counts.values()) < 0:
            self.none(record)
        else:
            self.assertEqual(counts_of(self.program, record), counts)

    def reckoned(self, record, ends, entries):
        known = dict(entries) if record[0] == "marks" else self.ways_of(entries)
        try:
            return Reckoner(self.program, list(known)).reckoned(known, [ends])
        except NoSums:
            return None

    def ways_of(self, entries):
        """The ways of the two conditions of MIXED, by the ways that each of their throughs takes."""
        takes = {(5, 0): "0n", (5, 1): "0y 1n", (5, 2): "0y 1y", (9, 0): "0n", (9, 1): "0y"}
        known = {way: 0 for way in self.program.ways() if way[2] != "on"}
        for row, number, many in entries:
            for word in takes[(row, number)].split(" "):
                known[(row, int(word[0]), {"n": "no", "y": "yes"}[word[1]])] += many
        return known

    def test_counts_below_0_and_counts_that_are_not_whole(self):
        program = Program(TWICE)
        self.assertEqual(counts_of(program, ("marks", "ended", (), [((0, 0, "on"), 6)]))[(4, 0, "yes")], 3)
        self.none(("marks", "ended", (), [((0, 0, "on"), 5)]), program)
        program = Program(main_of("if = a b", "tell a", "else", "tell b", "end"))
        counts_of(program, ("marks", "ended", (), [((1, 0, "yes"), 1)]))
        counts_of(program, ("marks", "ended", (), [((1, 0, "yes"), 0)]))
        self.none(("marks", "ended", (), [((1, 0, "yes"), 2)]), program)
        self.none(("marks", "spent", ((2, 0),), [((1, 0, "yes"), 0)]), program)
        counts_of(program, ("marks", "spent", ((2, 0),), [((1, 0, "yes"), 1)]))

    def test_multiples_and_changes_that_are_seen(self):
        program = self.program
        change = hidden_change(program, [])
        for seen in self.runs.values():
            counts = counts_in(program, [seen])
            for times in (1, -1):
                mixed = {way: counts[way] + times * change[way] for way in counts}
                record = ("marks", seen.outcome(), seen.ends(), sorted(mixed.items()))
                if min(mixed.values()) < 0:
                    self.none(record)
                else:
                    self.assertEqual(counts_of(program, record), mixed)

    def test_what_is_handed_in_stays(self):
        for record in self.records + [("marks", "ended", (), [[(0, 0, "on"), 1]])]:
            before = copy.deepcopy(record)
            try:
                counts_of(self.program, record)
            except NoRecord:
                pass
            self.assertEqual(record, before)


if __name__ == "__main__":
    unittest.main()
