import random
import time
import unittest
from fractions import Fraction

from tests.plain import leads_in, points_in, routines_of
from tests.some import LOOP, great_program, some_inputs, some_programs
from tests.test_leading import SORTS, add_run, reported
from tests.test_marking import PLAIN
from tests.test_programs import main_of
from tests.test_reports import NAMES, NO_NAMES, told
from tests.test_sums import CALLS, UNCALLED
from whatran.errors import NoEdition
from whatran.leading import lead_over
from whatran.ratios import is_fraction
from whatran.reports import join_reports
from whatran.totals import rarest_points, run_rows, share_met, total_rows

FUNCTIONS = [total_rows, share_met, run_rows, rarest_points]


def home_of(text, row):
    """The name of the routine in which a row stands."""
    return next(name for name, one in routines_of(text).items() if one.row <= row <= one.close)


def totals_by(text, runs):
    """What total_rows is to tell, of what these runs met and took."""
    met = {point for seen in runs for point in seen.met()}
    taken = {way for seen in runs for way in seen.taken()}
    columns = (met, points_in(text), taken, leads_in(text))
    rows = []
    for name in routines_of(text):
        rows.append((name, *[len([thing for thing in things if home_of(text, thing[0]) == name]) for things in columns]))
    return rows + [("all", *[len(things) for things in columns])]


def some_reports():
    """Reports of one edition, with its runs by their names."""
    chance = random.Random(1)
    for text in PLAIN + some_programs(411, 60, 50, 4) + [great_program()]:
        report = reported({"e": text, "other": text})
        runs = {}
        for run in chance.sample(NAMES, chance.randint(0, 6)):
            runs[run] = add_run(report, "e", run, some_inputs(chance), chance.choice([3, 20, 300]), chance.choice(SORTS))
        add_run(report, "other", "r", [1, 2, 3], 200)
        yield report, text, runs


class TotalsTest(unittest.TestCase):
    def test_total_rows_of_any_reports(self):
        for report, text, runs in some_reports():
            before = told(report)
            answer = total_rows(report, "e")
            self.assertIs(type(answer), list)
            self.assertEqual(answer, totals_by(text, runs.values()))
            self.assertEqual([row[0] for row in answer], report.program("e").routines() + ["all"])
            self.assertEqual(list(answer[-1][1:]), [sum(row[at] for row in answer[:-1]) for at in range(1, 5)])
            self.assertEqual(told(report), before)

    def test_total_rows_by_hand(self):
        report = reported({"e": UNCALLED, "loop": LOOP})
        self.assertEqual(total_rows(report, "e"), [("p", 0, 4, 0, 4), ("main", 0, 3, 0, 2), ("all", 0, 7, 0, 6)])
        add_run(report, "e", "r")
        add_run(report, "e", "s")
        self.assertEqual(total_rows(report, "e"), [("p", 0, 4, 0, 4), ("main", 3, 3, 2, 2), ("all", 3, 7, 2, 6)])
        add_run(report, "loop", "r", fuel=2)
        self.assertEqual(total_rows(report, "loop"), [("main", 2, 4, 1, 4), ("all", 2, 4, 1, 4)])
        self.assertEqual(total_rows(reported({"e": "def main\nend"}), "e"), [("main", 0, 2, 0, 1), ("all", 0, 2, 0, 1)])

    def test_a_routine_of_the_name_all(self):
        report = reported({"e": "def all\ntell a\nend\ndef main\ncall all\nend"})
        add_run(report, "e", "r", fuel=2)
        self.assertEqual(total_rows(report, "e"), [("all", 0, 3, 0, 2), ("main", 2, 3, 1, 2), ("all", 2, 6, 1, 4)])

    def test_share_met(self):
        for report, text, runs in some_reports():
            answer = share_met(report, "e")
            met = {point for seen in runs.values() for point in seen.met()}
            self.assertIs(is_fraction(answer), True)
            self.assertEqual(Fraction(*answer), Fraction(len(met), len(points_in(text))))
        report = reported({"e": LOOP, "main": main_of("ask a", "ask b")})
        self.assertEqual(share_met(report, "e"), (0, 1))
        add_run(report, "e", "r", fuel=2)
        self.assertEqual(share_met(report, "e"), (1, 2))
        add_run(report, "e", "s")
        self.assertEqual(share_met(report, "e"), (1, 1))
        add_run(report, "main", "r", [1])
        self.assertEqual(share_met(report, "main"), (3, 4))

    def test_run_rows(self):
        for report, _, runs in some_reports():
            due = [(run, len(runs[run].met()), len(runs[run].taken())) for run in sorted(runs)]
            answer = run_rows(report, "e")
            self.assertIs(type(answer), list)
            self.assertEqual(answer, due)
        report = reported({"e": LOOP})
        self.assertEqual(run_rows(report, "e"), [])
        add_run(report, "e", "z")
        add_run(report, "e", "0", fuel=1)
        self.assertEqual(run_rows(report, "e"), [("0", 1, 0), ("z", 4, 4)])

    def test_rarest_points(self):
        for report, text, runs in some_reports():
            many = {point: sum(point in seen.met() for seen in runs.values()) for point in points_in(text)}
            least = min((number for number in many.values() if number), default=None)
            answer = rarest_points(report, "e")
            self.assertIs(type(answer), list)
            self.assertEqual(answer, sorted(point for point in many if many[point] == least))

    def test_rarest_points_by_hand(self):
        report = reported({"e": main_of("ask a", "if = a 1", "tell a", "end", "while < b a", "set b b + 1", "end")})
        self.assertEqual(rarest_points(report, "e"), [])
        add_run(report, "e", "r", [0])
        self.assertEqual(rarest_points(report, "e"), [(0, 0), (1, 0), (2, 0), (5, 0), (8, 0)])
        # Met three times, but by one run.
        add_run(report, "e", "s", [3])
        self.assertEqual(rarest_points(report, "e"), [(6, 0)])
        add_run(report, "e", "t", [1])
        self.assertEqual(rarest_points(report, "e"), [(3, 0)])
        add_run(report, "e", "u", [1])
        self.assertEqual(rarest_points(report, "e"), [(3, 0)])

    def test_rarest_points_rise_whichever_run_met_them(self):
        report = reported({"e": main_of("ask a", "if = a 1", "tell a", "else", "tell b", "end")})
        add_run(report, "e", "a", [0])
        add_run(report, "e", "b", [1])
        self.assertEqual(rarest_points(report, "e"), [(3, 0), (5, 0)])

    def test_joined_and_led_over(self):
        text = main_of("ask a", "if = a 1", "tell a", "end")
        one, other = reported({"e": text, "n": "def w\nend\n" + text}), reported({"e": text})
        add_run(one, "e", "r", [0])
        add_run(other, "e", "s", [1], sort=SORTS[0])
        report = lead_over(join_reports(one, other), "e", "n")
        self.assertEqual(share_met(report, "e"), (1, 1))
        self.assertEqual(run_rows(report, "n"), run_rows(report, "e"))
        self.assertEqual(rarest_points(report, "n"), [(5, 0)])
        self.assertEqual(total_rows(report, "n"), [("w", 0, 2, 0, 1), ("main", 5, 5, 5, 5), ("all", 5, 7, 5, 6)])

    def test_what_is_told_and_changed_changes_nothing(self):
        report = reported({"e": CALLS})
        add_run(report, "e", "r", [1])
        for function in (total_rows, run_rows, rarest_points):
            due = list(function(report, "e"))
            function(report, "e").clear()
            self.assertEqual(function(report, "e"), due)
            self.assertNotEqual(due, [])

    def test_no_edition(self):
        report = reported({"e": LOOP})
        for function in FUNCTIONS:
            for name in ["none", "E", "e "] + NO_NAMES:
                with self.assertRaises(NoEdition) as caught:
                    function(report, name)
                self.assertIs(caught.exception.name, name)

    def test_sixty_rows_and_eight_runs_at_once(self):
        chance = random.Random(2)
        report = reported({"e": great_program()})
        for number in range(8):
            add_run(report, "e", f"r{number}", some_inputs(chance), 500)
        started = time.monotonic()
        for function in FUNCTIONS:
            function(report, "e")
        self.assertLess(time.monotonic() - started, 1)


if __name__ == "__main__":
    unittest.main()
