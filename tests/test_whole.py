"""The promise over the whole program: what the runs told, each report and each desk tells at the end."""

import random
import unittest

from tests.plain import Machine, leads_in, points_in
from tests.some import great_program, some_inputs, some_programs
from tests.test_choosing import shown_in
from tests.test_desk import dashed, flat, word_of
from tests.test_editions import changed_text, why_in
from tests.test_fewruns import fewest_by_all, is_paper, met_by
from tests.test_reaching import DEEP, bounded
from tests.test_records import MIXED
from tests.test_sums import CALLS
from whatran.choices import choice_words, seen_through
from whatran.conditions import parts_of
from whatran.desk import Desk
from whatran.fewruns import fewest_runs, paper_fault
from whatran.leading import lead_over, to_run
from whatran.marking import best_marks, fewest_marks, hidden_change, is_hidden
from whatran.programs import Program
from whatran.reaching import all_stands, inputs_to, moat_fault, reachable_points
from whatran.records import record_by_marks, record_by_numbers
from whatran.reports import Report, join_reports
from whatran.runs import run_program
from whatran.texts import read_record, read_report, record_text, report_text
from whatran.throughs import number_of
from whatran.totals import run_rows, share_met, total_rows

TEXTS = [CALLS, MIXED, DEEP] + some_programs(701, 30, 40, 5) + [great_program()]


class Runs:
    """Runs of an edition and the editions behind it, and what is to be told of them at the end."""

    def __init__(self, chance, text):
        self.chance = chance
        self.texts = {"a": text, "b": changed_text(chance, text, 1), "c": changed_text(chance, text, 2)}
        self.inputs = {name: (some_inputs(chance), chance.choice([2, 9, 40, 300])) for name in ["r1", "r2", "x", "0", "long", "z"]}
        self.machines = {name: Machine(text, *how) for name, how in self.inputs.items()}

    def ends(self, name):
        machine = self.machines[name]
        return () if machine.outcome == "ended" else tuple(machine.stack)

    def record(self, name, by_numbers):
        """A record of a run by a machine of its own, as it comes over in a text."""
        program = Program(self.texts["a"])
        seen = run_program(program, self.inputs[name][0], fuel=self.inputs[name][1])
        marks = best_marks(program)
        if not by_numbers and self.chance.random() < 0.5:
            marks = marks + [way for way in program.ways() if way not in marks and self.chance.random() < 0.3]
        record = record_by_numbers(program, seen) if by_numbers else record_by_marks(program, seen, marks)
        return read_record(record_text(record))

    def why(self, name, new):
        """Why a run does not go on in another edition."""
        machine = self.machines[name]
        return why_in(self.texts["a"], self.texts[new], machine.counted("met"), machine.counted("way"), self.ends(name))

    def told_to(self, many, by_numbers):
        """So many reports, to which the runs are told in any order, some of them more than once."""
        reports = [Report() for _ in range(many)]
        for report in reports:
            report.add_edition("a", Program(self.texts["a"]))
        for name in self.inputs:
            record = self.record(name, name in by_numbers)
            for report in self.chance.sample(reports, self.chance.randint(1, 2)):
                report.add("a", name, record)
                report.add("a", name, self.record(name, False))
        return reports


def check_edition(test, report, edition, machines, by_numbers):
    """Whether a report tells of an edition just what these runs of it did."""
    test.assertEqual(report.runs(edition), sorted(machines))
    met, taken = {}, {}
    for name, machine in machines.items():
        one, other = machine.counted("met"), machine.counted("way")
        test.assertEqual(report.met(edition, name), one)
        counts = report.counts(edition, name)
        test.assertEqual({way: counts[way] for way in counts if counts[way]}, other)
        test.assertEqual(report.outcome(edition, name), machine.outcome)
        test.assertEqual(report.ends(edition, name), () if machine.outcome == "ended" else tuple(machine.stack))
        test.assertEqual(report.through(edition, name), machine.through if name in by_numbers else None)
        for total, table in ((met, one), (taken, other)):
            for thing, many in table.items():
                total[thing] = total.get(thing, 0) + many
    test.assertEqual((report.all_met(edition), report.all_taken(edition)), (met, taken))
    check_more(test, report, edition, machines, met, taken)


def check_more(test, report, edition, machines, met, taken):
    text = report.program(edition).text()
    for point in points_in(text):
        test.assertEqual(report.who(edition, point), sorted(name for name in machines if point in machines[name].counted("met")))
    test.assertEqual(total_rows(report, edition)[-1], ("all", len(met), len(points_in(text)), len(taken), len(leads_in(text))))
    top, bottom = share_met(report, edition)
    test.assertEqual(top * len(points_in(text)), bottom * len(met))
    test.assertEqual([row[1] for row in run_rows(report, edition)], [len(machines[name].counted("met")) for name in sorted(machines)])
    names, paper = fewest_runs(report, edition)
    if names:
        sets = {name: set(machines[name].counted("met")) for name in machines}
        test.assertEqual(sets, met_by_edition(report, edition))
        test.assertEqual(len(names), fewest_by_all(sets))
        test.assertTrue(is_paper(sets, len(names) - 1, paper))
        test.assertIsNone(paper_fault(report, edition, len(names) - 1, paper))


def met_by_edition(report, edition):
    return {run: set(report.met(edition, run)) for run in report.runs(edition)}


class WholeTest(unittest.TestCase):
    def test_records_of_many_machines_joined_and_led_over(self):
        chance = random.Random(1)
        led_at_all = 0
        for text in TEXTS:
            runs = Runs(chance, text)
            by_numbers = chance.sample(list(runs.inputs), 3)
            reports = [read_report(report_text(report)) for report in runs.told_to(3, by_numbers)]
            one, other, third = chance.sample(reports, 3)
            joined = join_reports(join_reports(one, other), join_reports(third, one))
            self.assertEqual(joined, join_reports(other, join_reports(third, one)))
            check_edition(self, joined, "a", runs.machines, by_numbers)
            for new in ("b", "c"):
                joined.add_edition(new, Program(runs.texts[new]))
            led = lead_over(lead_over(joined, "a", "b"), "a", "c")
            check_edition(self, led, "a", runs.machines, by_numbers)
            for new in ("b", "c"):
                whys = {name: runs.why(name, new) for name in sorted(runs.inputs)}
                self.assertEqual(to_run(led, "a", new), [(name, why) for name, why in whys.items() if why is not None])
                going = [name for name in whys if whys[name] is None]
                led_at_all += len(going)
                self.check_led(led, runs, new, going, by_numbers)
            self.assertEqual(read_report(report_text(led)), led)
        self.assertGreater(led_at_all, 60)

    def check_led(self, led, runs, new, going, by_numbers):
        """Whether the runs that go on are told as runs of the new edition, which tell and ask the same."""
        machines = {name: Machine(runs.texts[new], *runs.inputs[name]) for name in going}
        check_edition(self, led, new, machines, by_numbers)
        for name in going:
            one, other = runs.machines[name], machines[name]
            self.assertEqual((one.told, one.asked, one.outcome), (other.told, other.asked, other.outcome))
            self.assertEqual(len(one.log), len(other.log))

    def test_a_desk_tells_the_same_as_the_functions(self):
        chance = random.Random(2)
        for text in TEXTS[:20]:
            runs = Runs(chance, text)
            by_numbers = chance.sample(list(runs.inputs), 3)
            desks = [Desk() for _ in range(3)]
            for desk in desks:
                desk.say(f"edition a {flat(text)}")
            for name, (inputs, fuel) in runs.inputs.items():
                word = "look" if name in by_numbers else "run"
                machine = runs.machines[name]
                answer = chance.choice(desks).say(f"{word} a {name} {fuel} {dashed([str(number) for number in inputs], '')}")
                self.assertEqual(answer, f"{machine.outcome} {dashed([str(number) for number in machine.told], '')}")
                chance.choice(desks).say(f"took a {name} {flat(record_text(runs.record(name, False)))}")
            last = Desk()
            for new in ("b", "c"):
                last.say(f"edition {new} {flat(runs.texts[new])}")
            for desk in desks + desks[:1]:
                last.say(f"join {desk.say('text')}")
            for new in ("b", "c"):
                whys = {name: runs.why(name, new) for name in sorted(runs.inputs)}
                self.assertEqual(last.say(f"lead a {new}"), dashed([name for name in whys if whys[name] is not None]))
            report = read_report(last.say("text").replace("; ", "\n"))
            check_edition(self, report, "a", runs.machines, by_numbers)
            self.check_said(last, report)

    def check_said(self, desk, report):
        for edition in ("a", "b", "c"):
            met = report.all_met(edition)
            self.assertEqual(desk.say(f"met {edition}"), dashed([f"{word_of(point)} {met[point]}" for point in sorted(met)], "; "))
            for point in report.program(edition).points():
                self.assertEqual(desk.say(f"who {edition} {word_of(point)}"), dashed(report.who(edition, point)))
            self.assertEqual(desk.say(f"few {edition}"), dashed(fewest_runs(report, edition)[0]))

    def test_marks_are_enough_and_none_fewer_are(self):
        for text in TEXTS:
            program = Program(text)
            marks = best_marks(program)
            self.assertEqual(len(marks), fewest_marks(program))
            self.assertIsNone(hidden_change(program, marks))
            for mark in marks:
                left = [way for way in marks if way != mark]
                self.assertTrue(is_hidden(program, left, hidden_change(program, left)))

    def test_each_point_has_inputs_or_a_moat(self):
        for text in bounded(TEXTS):
            program = Program(text)
            stands = all_stands(program)
            self.assertIsNone(moat_fault(program, stands))
            reached = {points[-1] for points, _ in stands}
            self.assertEqual(reachable_points(program), sorted(reached))
            for point in program.points():
                inputs = inputs_to(program, point)
                self.assertEqual(inputs is None, point not in reached)
                if inputs is not None:
                    self.assertIn(point, run_program(program, inputs, fuel=5000).met())

    def test_choices_of_what_the_runs_saw(self):
        chance = random.Random(3)
        for text in TEXTS:
            runs = Runs(chance, text)
            by_numbers = chance.sample(list(runs.inputs), 3)
            report = join_reports(*runs.told_to(2, by_numbers))
            program = report.program("a")
            for row in [row for row in range(len(program)) if program.word(row) in ("if", "while")]:
                condition = program.condition(row)
                seen = seen_through(report, "a", row)
                numbers = {number for name in by_numbers for at, number in runs.machines[name].through if at == row}
                self.assertEqual([number_of(condition, through) for through in seen], sorted(numbers))
                words = choice_words(report, "a", row)
                for part in range(len(parts_of(condition))):
                    self.assertEqual(words[part] == "shown", shown_in(condition, part, seen) is not None)

    def test_of_one_edition_alone(self):
        report = Report()
        report.add_edition("e", Program(MIXED))
        self.assertEqual((met_by(report), fewest_runs(report, "e")), ({}, ([], None)))


if __name__ == "__main__":
    unittest.main()
