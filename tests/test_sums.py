import copy
import random
import unittest

from tests.plain import fault_in, meets_in
from tests.some import LOOP, great_program, some_inputs, some_programs
from tests.test_programs import main_of
from tests.things import GREAT, NO_WHOLES
from whatran.errors import NoCounts, NoEnds
from whatran.programs import Program
from whatran.runs import run_program
from whatran.sums import sum_fault

CALLS = ("def p\nif = a 1\nask a\nelse\nset a 1\nend\nend\n"
         "def q\ncall p\ncall p\nend\n"
         "def r\nstop\nend\n"
         "def main\nwhile < b 3\ncall q\nset b b + 1\nend\ncall r\nend")
UNCALLED = "def p\nask a\nwhile = a 1\nend\nend\ndef main\ntell a\nend"
TEXTS = some_programs(31, 60, 40, 5) + [LOOP, CALLS, UNCALLED, great_program(), "def main\nend"]


def counts_in(program, runs):
    """The numbers of the ways that these runs took, added up, 0 of the others."""
    counts = {way: 0 for way in program.ways()}
    for seen in runs:
        for way, many in seen.taken().items():
            counts[way] += many
    return counts


def runs_of(program, chance, count):
    return [
        run_program(program, some_inputs(chance), fuel=chance.choice([1, 2, 3, 5, 9, 20, 80, 500]))
        for _ in range(count)
    ]


def some_sums(start, texts=TEXTS, most=4):
    """Programs with counts and ends of some runs."""
    chance = random.Random(start)
    for text in texts:
        program = Program(text)
        runs = runs_of(program, chance, chance.randint(1, most))
        yield program, counts_in(program, runs), [seen.ends() for seen in runs]


class KeptTest(unittest.TestCase):
    def test_of_one_run(self):
        for start in range(4):
            for program, counts, ends in some_sums(start, most=1):
                self.assertIsNone(sum_fault(program, counts, ends))

    def test_of_several_runs_added_up_with_the_ends_in_any_order(self):
        chance = random.Random(2)
        for program, counts, ends in some_sums(40, most=9):
            self.assertIsNone(sum_fault(program, counts, ends))
            chance.shuffle(ends)
            self.assertIsNone(sum_fault(program, counts, ends))

    def test_of_each_fuel(self):
        for text in (LOOP, CALLS, great_program()):
            program = Program(text)
            for fuel in range(1, 80):
                seen = run_program(program, [0, 1, 2, 3], fuel=fuel)
                self.assertIsNone(sum_fault(program, counts_in(program, [seen]), [seen.ends()]))

    def test_of_no_runs(self):
        for text in TEXTS:
            program = Program(text)
            self.assertIsNone(sum_fault(program, {way: 0 for way in program.ways()}, []))

    def test_numbers_below_0(self):
        program = Program(LOOP)
        counts = {(0, 0, "on"): 0, (1, 0, "no"): 0, (1, 0, "yes"): -3, (2, 0, "on"): -3}
        self.assertIsNone(sum_fault(program, counts, []))
        counts[(2, 0, "on")] = -2
        self.assertEqual(sum_fault(program, counts, []), (1, 0))

    def test_numbers_of_sixty_figures(self):
        program = Program(LOOP)
        counts = {(0, 0, "on"): 1, (1, 0, "no"): 1, (1, 0, "yes"): GREAT, (2, 0, "on"): GREAT}
        self.assertIsNone(sum_fault(program, counts, [()]))
        counts[(2, 0, "on")] = GREAT + 1
        self.assertEqual(sum_fault(program, counts, [()]), (1, 0))


class FaultTest(unittest.TestCase):
    def test_one_way_more_or_less(self):
        for program, counts, ends in some_sums(50):
            for way in counts:
                for by in (1, -1, 7, GREAT):
                    changed = dict(counts)
                    changed[way] += by
                    due = fault_in(program.text(), changed, ends)
                    self.assertEqual(sum_fault(program, changed, ends), due)

    def test_any_counts_and_ends_put_together(self):
        chance = random.Random(12)
        for program, counts, ends in some_sums(60, TEXTS[:40]):
            for _ in range(8):
                changed = {way: many + chance.choice([0, 0, 0, 1, -1]) for way, many in counts.items()}
                others = [seen.ends() for seen in runs_of(program, chance, chance.randint(0, 3))]
                due = fault_in(program.text(), changed, others)
                self.assertEqual(sum_fault(program, changed, others), due)

    def test_an_end_left_out_or_told_twice(self):
        for program, counts, ends in some_sums(70, most=3):
            for at in range(len(ends)):
                for changed in (ends[:at] + ends[at + 1:], ends + [ends[at]]):
                    due = fault_in(program.text(), counts, changed)
                    # A run that stands at the def of main has taken no way.
                    self.assertEqual(due is None, ends[at] == (program.begin("main"),))
                    self.assertEqual(sum_fault(program, counts, changed), due)

    def test_where_a_run_stands_in_a_call(self):
        program = Program("def p\nask a\nend\ndef main\ncall p\nend")
        self.assertEqual(program.ways(), [(0, 0, "on"), (1, 0, "on"), (3, 0, "on"), (4, 0, "on")])
        numbers = {
            ((3, 0),): (0, 0, 0, 0), ((4, 0),): (0, 0, 1, 0), ((4, 0), (0, 0)): (0, 0, 1, 0),
            ((4, 0), (1, 0)): (1, 0, 1, 0), ((4, 0), (2, 0)): (1, 1, 1, 0), (): (1, 1, 1, 1),
        }
        for end in numbers:
            for other in numbers:
                counts = dict(zip(program.ways(), numbers[other]))
                told = sum_fault(program, counts, [end])
                self.assertEqual(told is None, numbers[end] == numbers[other])
                self.assertEqual(told, fault_in(program.text(), counts, [end]))

    def test_all_0_with_runs(self):
        for text in TEXTS:
            program = Program(text)
            counts = {way: 0 for way in program.ways()}
            self.assertEqual(sum_fault(program, counts, [()]), fault_in(text, counts, [()]))
            end = (program.begin("main"),)
            self.assertIsNone(sum_fault(program, counts, [end]))
            self.assertEqual(meets_in(text, counts, [end, end])[end[0]], 2)
            self.assertIsNone(sum_fault(program, counts, [end, end]))


def bad_counts(program):
    """Things that are no counts of a program of which (0, 0, "on") and (1, 0, "yes") are ways."""
    zeros = {way: 0 for way in program.ways()}
    for way in zeros:
        yield {other: 0 for other in zeros if other != way}
        for thing in NO_WHOLES:
            yield {**zeros, way: thing}
    for key in [(9, 0, "on"), (0, 0), "0.0.on", 0, None, (), ("0", 0, "on"), (0, 0, "yes"), frozenset(), 1.5]:
        yield {**zeros, key: 0}
        yield {**{way: 0 for way in zeros if way != (1, 0, "yes")}, key: 0}
    for key in [(True, 0, "yes"), (1, False, "yes"), (1.0, 0, "yes"), (1, 0.0, "yes")]:
        yield {**{way: 0 for way in zeros if way != (1, 0, "yes")}, key: 0}
    yield from [list(zeros), tuple(zeros), list(zeros.items()), set(zeros), {}, "x", 0, None, True, str(zeros)]


def bad_ends(program):
    """Things that are no ends of CALLS."""
    for end in [0, None, True, "", [], [()], (0,), (0, 0), ((17, 0), 0), ((17,),), ((99, 0),), ((-1, 0),), ((True, 0),),
                ((17, False),), ((17.0, 0),), ((17, 0, "on"),), ([17, 0],), [(17, 0)], {(17, 0): 1}, ((15, 1),),
                ("17",), ((None, 0),), (([], 0),), ((),), (((17, 0),),), ((18, 0),), ((3, 0),), ((5, 0),),
                # Not of main, no call, a call of another routine, the end of main.
                ((0, 0),), ((8, 0),), ((13, 0),), ((1, 0), (2, 0)), ((12, 0), (0, 0)), ((17, 0), (0, 0)), ((20, 0),),
                ((16, 0), (0, 0)), ((16, 0), (11, 0)), ((19, 0), (7, 0)), ((19, 0), (20, 0)), ((20, 0), (20, 0)),
                ((16, 0), (7, 0), (0, 0)), ((16, 0), (8, 0), (10, 0)), ((16, 0), (0, 0), (1, 0)), ((8, 0), (1, 0)),
                ((16, 0), (8, 0), (1, 0), (2, 0)), ((16, 0), (16, 0)), ((19, 0), (16, 0)), ((14, 0), (15, 0)),
                ((16, 0), (), (0, 0)), ((16, 0), (7, 0), ())]:
        yield [end]
        yield [(), end]
        yield [end, ((14, 0),)]
    yield from [(), ((),), None, 0, {}, {(): 1}, "", "()", set(), True, ((14, 0),), range(2)]


class RefusedTest(unittest.TestCase):
    def setUp(self):
        self.program = Program(CALLS)
        self.zeros = {way: 0 for way in self.program.ways()}

    def test_ends_that_are_some(self):
        self.assertEqual(self.program.close("main"), (20, 0))
        for rows in [(), (14,), (15,), (16,), (17,), (19,), (16, 7), (16, 8), (16, 9), (16, 10), (16, 8, 0),
                     (16, 9, 0), (16, 9, 1), (16, 8, 2), (16, 8, 4), (16, 9, 6), (19, 11), (19, 12), (19, 13)]:
            end = tuple((row, 0) for row in rows)
            due = fault_in(CALLS, self.zeros, [end])
            self.assertEqual(sum_fault(self.program, self.zeros, [end]), due)
            self.assertEqual(due is None, rows == (14,))

    def test_counts_that_are_none(self):
        program = Program(LOOP)
        for thing in list(bad_counts(program)) + NO_WHOLES:
            for ends in ([], [()], None, 0, [0], ()):
                self.assertRaises(NoCounts, sum_fault, program, thing, ends)

    def test_ends_that_are_none(self):
        for thing in list(bad_ends(self.program)) + [one for one in NO_WHOLES if one != []]:
            self.assertRaises(NoEnds, sum_fault, self.program, self.zeros, thing)

    def test_a_point_of_a_part_above_0(self):
        program = Program(main_of("if and = a b = b c", "end"))
        zeros = {way: 0 for way in program.ways()}
        self.assertRaises(NoEnds, sum_fault, program, zeros, [((1, 1),)])
        self.assertEqual(sum_fault(program, zeros, [((1, 0),)]), (0, 0))

    def test_counts_of_another_program(self):
        self.assertRaises(NoCounts, sum_fault, Program(LOOP), self.zeros, [])

    def test_what_is_handed_in_stays(self):
        for program, counts, ends in some_sums(80, TEXTS[:10]):
            before = copy.deepcopy((counts, ends))
            sum_fault(program, counts, ends)
            self.assertEqual((counts, ends), before)


if __name__ == "__main__":
    unittest.main()
