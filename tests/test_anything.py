"""Objects of the interface's classes, and of built-in ones, handed in where they are refused."""

import unittest

from tests.some import LOOP
from tests.test_conditions import PART
from tests.things import NO_WHOLES
from whatran import errors
from whatran.choices import choice_words, seen_through
from whatran.choosing import can_show, shown_by
from whatran.conditions import asked_parts, condition_text, is_condition, read_condition
from whatran.desk import Desk
from whatran.editions import image_of, led_counts
from whatran.fewruns import fewest_runs, paper_fault
from whatran.leading import lead_over, to_run
from whatran.marking import Reckoner, best_marks, hidden_change, is_hidden
from whatran.programs import Program
from whatran.ratios import fraction, is_fraction
from whatran.reaching import all_stands, inputs_to, moat_fault, next_stands
from whatran.records import counts_of, record_by_marks
from whatran.reports import Report
from whatran.runs import Seen, run_program
from whatran.sums import sum_fault
from whatran.texts import read_record, read_report
from whatran.throughs import all_throughs, number_of, through_at
from whatran.totals import rarest_points, run_rows, share_met, total_rows
from whatran.wholes import is_whole

PROGRAM = Program(LOOP)
SEEN = run_program(PROGRAM, [])
MARKS = [(1, 0, "yes")]
ZEROS = {way: 0 for way in PROGRAM.ways()}


def a_report():
    report = Report()
    report.add_edition("one", PROGRAM)
    report.add("one", "r", record_by_marks(PROGRAM, SEEN, MARKS))
    return report


def things():
    """None of these is a number, a name, or anything that is made of these."""
    objects = [PROGRAM, SEEN, a_report(), Reckoner(PROGRAM, MARKS), Desk(), errors.Clash("r"), errors.NoProgram(3),
               Program, Seen, Report, errors.RanError, run_program, PROGRAM.ways, 0.5, -0.0, 1.0]
    plain = [thing for thing in NO_WHOLES if not isinstance(thing, (str, list, tuple))]
    for thing in objects + plain:
        yield from [thing, (thing,), (thing, 0), (thing, 0, "on"), (1, 0, thing), (0, thing), ("=", "a", thing)]
        yield [thing]
        yield {"x": thing}
        try:
            yield {thing: 0}
            yield {**ZEROS, thing: 0}
        except TypeError:
            pass


class AnythingTest(unittest.TestCase):
    def refused(self, error, function, *arguments, **more):
        with self.assertRaises(getattr(errors, error)):
            function(*arguments, **more)

    def test_questions_are_answered_by_false(self):
        for thing in things():
            self.assertIs(is_whole(thing, None, None), False)
            self.assertIs(is_condition(thing), False)
            self.assertIs(PROGRAM.is_point(thing), False)
            self.assertIs(is_hidden(PROGRAM, [], thing), False)
            if not isinstance(thing, tuple):
                self.assertIs(is_fraction(thing), False)

    def test_conditions_and_programs(self):
        for thing in things():
            self.refused("NoFraction", fraction, thing)
            self.refused("NoCondition", condition_text, thing)
            self.refused("NoCondition", read_condition, thing)
            self.refused("NoCondition", all_throughs, thing)
            self.refused("NoValues", asked_parts, PART, thing)
            self.refused("NoThrough", number_of, PART, thing)
            self.refused("NoNumber", through_at, PART, thing)
            self.refused("NoProgram", Program, thing)
            self.refused("NoName", PROGRAM.begin, thing)
            self.refused("NoName", PROGRAM.close, thing)
            self.refused("NoPoint", PROGRAM.word, thing)
            self.refused("NoPoint", PROGRAM.condition, thing)
            self.refused("NoWay", PROGRAM.leads, thing)

    def test_runs_sums_and_marks(self):
        reckoner = Reckoner(PROGRAM, MARKS)
        for thing in things():
            self.refused("NoInputs", run_program, PROGRAM, thing)
            self.refused("NoNumber", run_program, PROGRAM, [], fuel=thing)
            self.refused("NoCounts", sum_fault, PROGRAM, thing, [])
            self.refused("NoEnds", sum_fault, PROGRAM, ZEROS, thing)
            self.refused("NoMarks", hidden_change, PROGRAM, thing)
            self.refused("NoMarks", Reckoner, PROGRAM, thing)
            self.refused("NoCounts", reckoner.reckoned, thing, [])
            self.refused("NoWay", reckoner.shares, thing)
            if thing is not None:
                self.refused("NoWeights", best_marks, PROGRAM, weights=thing)

    def test_records_reports_and_editions(self):
        report = a_report()
        for thing in things():
            self.refused("NoMarks", record_by_marks, PROGRAM, SEEN, thing)
            self.refused("NoRecord", counts_of, PROGRAM, thing)
            for at in range(4):
                record = [*record_by_marks(PROGRAM, SEEN, MARKS)]
                record[at] = thing
                self.refused("NoRecord", counts_of, PROGRAM, tuple(record))
            self.refused("NoName", report.add_edition, thing, PROGRAM)
            self.refused("NoEdition", report.add, thing, "r", None)
            self.refused("NoName", report.add, "one", thing, None)
            self.refused("NoRecord", report.add, "one", "s", thing)
            self.refused("NoEdition", report.met, thing, thing)
            self.refused("NoRun", report.met, "one", thing)
            self.refused("NoPoint", report.who, "one", thing)
            self.refused("NoPoint", image_of, PROGRAM, PROGRAM, thing)
            self.refused("NoCounts", led_counts, PROGRAM, PROGRAM, thing, ())
            self.refused("NoEnds", led_counts, PROGRAM, PROGRAM, ZEROS, thing)
        self.assertEqual(report, a_report())

    def test_leading_papers_and_totals(self):
        report = a_report()
        for thing in things():
            for function in (lead_over, to_run):
                self.refused("NoEdition", function, report, thing, "one")
                self.refused("NoEdition", function, report, "one", thing)
            for function in (fewest_runs, total_rows, share_met, run_rows, rarest_points):
                self.refused("NoEdition", function, report, thing)
            self.refused("NoEdition", paper_fault, report, thing, 0, None)
            self.refused("NoNumber", paper_fault, report, "one", thing, None)
            for many in (0, 1):
                for paper in (thing, (thing, []), ((0, 0), thing), ((0, 0), [thing]), ((0, 0), [(thing, None)])):
                    if many or paper is not None:
                        self.assertEqual(paper_fault(report, "one", many, paper), ())
            for function in (choice_words, seen_through):
                self.refused("NoEdition", function, report, thing, 1)
                self.refused("NoPoint", function, report, "one", thing)
        self.assertEqual(report, a_report())

    def test_stands_and_choosing(self):
        stands = all_stands(PROGRAM)
        for thing in things():
            for stand in (thing, (thing, (0, 0, 0)), ((thing,), (0, 0, 0)), (((0, 0),), thing), (((0, 0),), (0, thing, 0))):
                self.refused("NoStand", next_stands, PROGRAM, stand)
                self.refused("NoStand", moat_fault, PROGRAM, stands + [stand])
            self.refused("NoStand", moat_fault, PROGRAM, thing)
            self.refused("NoPoint", inputs_to, PROGRAM, thing)
            self.refused("NoCondition", shown_by, thing, 0, [])
            self.refused("NoCondition", can_show, thing, 0)
            self.refused("NoNumber", shown_by, PART, thing, [])
            self.refused("NoNumber", can_show, PART, thing)
            self.refused("NoThrough", shown_by, PART, 0, thing)
            self.refused("NoThrough", shown_by, PART, 0, [(0,), thing])

    def test_texts_and_the_desk(self):
        desk = Desk()
        for thing in things():
            self.refused("NoText", read_record, thing)
            self.refused("NoText", read_report, thing)
            self.refused("NoRow", desk.say, thing)
        self.assertEqual(desk.say("text"), "-")


if __name__ == "__main__":
    unittest.main()
