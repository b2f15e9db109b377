import copy
import itertools
import random
import time
import unittest

from tests.some import LOOP, great_program, some_inputs, some_programs
from tests.test_leading import SORTS, add_run, reported
from tests.test_marking import PLAIN
from tests.test_points import NO_POINTS
from tests.test_programs import main_of
from tests.test_reports import NAMES, NO_NAMES, told
from tests.test_sums import CALLS
from tests.things import GREAT, NO_WHOLES
from whatran.errors import NoEdition, NoNumber
from whatran.fewruns import fewest_runs, paper_fault
from whatran.programs import Program
from whatran.reports import Report

# A run meets the tells that its inputs choose: any of the sets of these can be met.
CHOOSING = main_of(*[row for number in range(9) for row in ("ask a", "if = a 1", f"tell {number % 4}", "end")])
NO_PAPERS = NO_WHOLES + [0, 1, -1, "x", "None", (), (None,), (None, None), ((0, 0),), ((0, 0), []), [(0, 0), []], {(0, 0): []},
                         ((0, 0), [], None), ((0, 0), None), ((0, 0), ()), ((0, 0), [("r", None)], 0), {}, [None]]


def some_report(chance, text, many, inputs=None):
    """A report of one edition with so many runs, by names in any order."""
    report = reported({"e": text})
    for run in chance.sample(NAMES, many):
        add_run(report, "e", run, inputs() if inputs else some_inputs(chance), 300, chance.choice(SORTS))
    return report


def choosing_report(chance, many, likely=0.3):
    return some_report(chance, CHOOSING, many, lambda: [int(chance.random() < likely) for _ in range(9)])


def report_of_sets(sets):
    """A report whose runs meet just these of the tells of the edition."""
    report = reported({"e": CHOOSING})
    for run, chosen in sets.items():
        add_run(report, "e", run, [int(number in chosen) for number in range(9)])
    return report


def some_reports():
    """Reports with none to eight runs."""
    chance = random.Random(1)
    for many in range(9):
        for likely in (0.15, 0.3, 0.6):
            for _ in range(6):
                yield choosing_report(chance, many, likely)
    for text in PLAIN + some_programs(211, 30, 40, 4) + [great_program()]:
        yield some_report(chance, text, chance.randint(0, 8))


def met_by(report):
    """For each run the points that it met."""
    return {run: set(report.met("e", run)) for run in report.runs("e")}


def fewest_by_all(met):
    """How many runs are needed at least, by looking at every choice of runs."""
    every = set().union(*met.values())
    for many in range(len(met) + 1):
        for names in itertools.combinations(sorted(met), many):
            if set().union(*(met[name] for name in names)) == every:
                return many


def is_paper(met, many, paper, taken=()):
    """Whether it is a paper, read off the document."""
    every = set().union(*met.values())
    left = every - set().union(*(met[name] for name in taken))
    if len(taken) == many:
        return paper is None and bool(left)
    if type(paper) is not tuple or len(paper) != 2 or type(paper[0]) is not tuple or type(paper[1]) is not list:
        return False
    if [type(number) for number in paper[0]] != [int, int] or paper[0] not in left:
        return False
    if any(type(row) is not tuple or len(row) != 2 or type(row[0]) is not str for row in paper[1]):
        return False
    if [row[0] for row in paper[1]] != sorted(name for name in met if paper[0] in met[name]):
        return False
    return all(is_paper(met, many, inner, taken + (name,)) for name, inner in paper[1])


def some_paper(chance, met, many, taken=()):
    """Any paper for so many runs, put together by chance."""
    if len(taken) == many:
        return None
    left = set().union(*met.values()) - set().union(*(met[name] for name in taken))
    point = chance.choice(sorted(left))
    names = sorted(name for name in met if point in met[name])
    return (point, [(name, some_paper(chance, met, many, taken + (name,))) for name in names])


def places(paper, taken=()):
    """The runs taken at each paper within a paper, from the left, the outer ones first."""
    yield taken, paper
    if paper is not None:
        for name, inner in paper[1]:
            yield from places(inner, taken + (name,))


def changed(paper, taken, change):
    """The paper with another one at the place where these runs are taken."""
    if not taken:
        return change(paper)
    point, rows = paper
    return (point, [(name, changed(inner, taken[1:], change) if name == taken[0] else inner) for name, inner in rows])


class FewestTest(unittest.TestCase):
    def test_as_few_as_can_be_on_any_reports(self):
        sizes = set()
        for report in some_reports():
            before = copy.deepcopy(told(report))
            answer = fewest_runs(report, "e")
            self.assertIs(type(answer), tuple)
            names, paper = answer
            self.assertIs(type(names), list)
            self.assertEqual(told(report), before)
            met = met_by(report)
            self.assertEqual(names, sorted(set(names)))
            self.assertLessEqual(set(names), set(met))
            every = set().union(*met.values())
            self.assertEqual(set().union(*(met[name] for name in names)), every)
            self.assertEqual(len(names), fewest_by_all(met))
            self.check_paper(report, met, names, paper)
            sizes.add(len(names))
        self.assertLessEqual(set(range(7)), sizes)

    def check_paper(self, report, met, names, paper):
        if not names:
            self.assertIsNone(paper)
            return
        self.assertTrue(is_paper(met, len(names) - 1, paper))
        self.assertIsNone(paper_fault(report, "e", len(names) - 1, paper))
        lists = [inner[1] for _, inner in places(paper) if inner is not None]
        self.assertEqual(len({id(one) for one in lists}), len(lists))
        for _, inner in places(paper):
            self.assertIn(type(inner), (tuple, type(None)))

    def test_no_runs(self):
        report = reported({"e": LOOP, "f": CALLS})
        add_run(report, "f", "r")
        self.assertEqual(fewest_runs(report, "e"), ([], None))

    def test_one_run_and_runs_that_met_the_same(self):
        report = reported({"e": CALLS})
        add_run(report, "e", "r")
        self.assertEqual(fewest_runs(report, "e"), (["r"], None))
        for run in ("a", "z", "0"):
            add_run(report, "e", run)
        names, paper = fewest_runs(report, "e")
        self.assertEqual((len(names), paper), (1, None))

    def test_one_run_that_met_all(self):
        sets = {f"r{number}": {number} for number in range(7)}
        report = report_of_sets({**sets, "all": set(range(9))})
        self.assertEqual(fewest_runs(report, "e"), (["all"], None))
        self.assertIsNone(paper_fault(report, "e", 0, None))
        self.assertEqual(paper_fault(report, "e", 1, None), ())

    def test_each_run_is_needed(self):
        report = report_of_sets({f"r{number}": {number} for number in range(8)})
        names, paper = fewest_runs(report, "e")
        self.assertEqual(names, [f"r{number}" for number in range(8)])
        self.assertIsNone(paper_fault(report, "e", 7, paper))

    def test_two_of_three(self):
        report = report_of_sets({"a": {0, 1}, "b": {1, 2}, "c": {2, 0}})
        names, paper = fewest_runs(report, "e")
        self.assertEqual(len(names), 2)
        self.assertEqual(len(paper), 2)
        point, rows = paper
        self.assertEqual(rows, [(run, None) for run in report.who("e", point)])
        self.assertEqual(len(rows), 2)

    def test_greed_does_not_do(self):
        # The run that met the most is not among the fewest.
        sets = {"a": {0, 1, 2, 3}, "b": {0, 1, 4}, "c": {2, 3, 5}}
        self.assertEqual(fewest_runs(report_of_sets(sets), "e")[0], ["b", "c"])

    def test_points_that_a_run_meets_again_and_again_count_once(self):
        report = reported({"e": main_of("ask a", "while < b a", "set b b + 1", "end", "if = a 0", "tell a", "end")})
        for run, inputs in (("a", [0]), ("b", [1]), ("c", [3])):
            add_run(report, "e", run, inputs)
        self.assertEqual(len(fewest_runs(report, "e")[0]), 2)

    def test_a_new_list_each_time(self):
        report = report_of_sets({"a": {0, 1}, "b": {1, 2}, "c": {2, 0}})
        names, paper = fewest_runs(report, "e")
        again = copy.deepcopy((names, paper))
        names.clear()
        paper[1].clear()
        self.assertEqual(fewest_runs(report, "e"), again)

    def test_no_edition(self):
        report = report_of_sets({"a": {0}})
        for name in ["none", "E"] + NO_NAMES:
            with self.assertRaises(NoEdition) as caught:
                fewest_runs(report, name)
            self.assertIs(caught.exception.name, name)


class PaperTest(unittest.TestCase):
    def check(self, report, many, paper, due):
        before = copy.deepcopy(paper)
        self.assertEqual(paper_fault(report, "e", many, paper), due)
        self.assertEqual(paper, before)

    def some(self):
        """Reports with any papers that are right."""
        chance = random.Random(2)
        for report in some_reports():
            met = met_by(report)
            for many in range(fewest_by_all(met)):
                yield chance, report, met, many, some_paper(chance, met, many)

    def test_papers_put_together_by_hand_for_each_number(self):
        numbers = set()
        for _, report, met, many, paper in self.some():
            self.assertTrue(is_paper(met, many, paper))
            self.check(report, many, paper, None)
            numbers.add(many)
        self.assertLessEqual(set(range(6)), numbers)

    def test_for_another_number(self):
        for _, report, met, many, paper in self.some():
            first = next(taken for taken, inner in places(paper) if inner is None)
            # At the first end on the left more papers are wanting, or some are too many.
            self.check(report, many + 1, paper, first)
            self.check(report, many + 5, paper, first)
            self.check(report, GREAT, paper, first)
            if many:
                self.check(report, many - 1, paper, first[:-1])
                self.check(report, 0, paper, ())

    def test_one_thing_otherwise(self):
        for chance, report, met, many, paper in self.some():
            spots = list(places(paper))
            for taken, inner in chance.sample(spots, min(6, len(spots))):
                for change in self.changes(chance, report, met, taken, inner):
                    wrong = changed(paper, taken, lambda _: change)
                    self.assertFalse(is_paper(met, many, wrong))
                    self.check(report, many, wrong, taken)

    def changes(self, chance, report, met, taken, paper):
        """What stands in place of a paper, each with one thing otherwise at this place itself."""
        points = report.program("e").points()
        if paper is None:
            point = chance.choice(points)
            yield from [(point, []), (point, [(name, None) for name in report.who("e", point)]), (), [], 0, False, "x"]
            return
        point, rows = paper
        every = set().union(*met.values())
        done = set().union(*(met[name] for name in taken))
        for other in [one for one in points if one in done or one not in every][:4]:
            names = report.who("e", other)
            yield (other, [(name, None) for name in names])
            yield (other, rows)
        yield from [None, (point, rows[1:]), (point, rows[:-1]), (point, rows + rows[-1:]), (point, rows[:1] + rows)]
        yield from [(point, rows + [("none", None)]), (point, [("", None)] + rows), (point, []), (point, tuple(rows))]
        if len(rows) > 1:
            yield (point, rows[::-1])
        yield from [[point, rows], (point,), (point, rows, rows), (list(point), rows), (point + (0,), rows), (rows, point)]
        yield from [(None, rows), ((float(point[0]), point[1]), rows), ((point[0], bool(point[1])), rows), (point, dict(rows))]
        name, inner = rows[0]
        for row in ([name, inner], (name,), (name, inner, inner), name, None, (name.encode(), inner), (0, inner), ([], inner),
                    (inner, name), {name: inner}, (None, inner), (True, inner)):
            yield (point, [row] + rows[1:])
        other = next((run for run in sorted(met) if run not in report.who("e", point)), None)
        if other is not None:
            yield (point, [(other, inner)] + rows[1:])

    def test_two_things_otherwise_the_first_from_the_left(self):
        for chance, report, met, many, paper in self.some():
            spots = list(places(paper))
            if len(spots) < 3:
                continue
            for _ in range(4):
                first, second = sorted(chance.sample(range(1, len(spots)), 2))
                wrong = changed(paper, spots[second][0], lambda _: 0)
                if spots[second][0][:len(spots[first][0])] == spots[first][0]:
                    # One stands within the other: the outer one keeps its point and loses its last name.
                    point, rows = wrong_at(wrong, spots[first][0])
                    wrong = changed(wrong, spots[first][0], lambda _: (point, rows + [("none", None)]))
                else:
                    wrong = changed(wrong, spots[first][0], lambda _: 0)
                self.check(report, many, wrong, spots[first][0])

    def test_what_is_none_at_all(self):
        report = report_of_sets({"a": {0, 1}, "b": {1, 2}, "c": {2, 0}})
        for paper in NO_PAPERS + NO_POINTS:
            for many in (1, 2, 8, GREAT):
                self.assertEqual(paper_fault(report, "e", many, paper), ())
            if paper is not None:
                self.assertEqual(paper_fault(report, "e", 0, paper), ())
        around = []
        around.append(("a", ((0, 0), around)))
        for paper in (around, ((0, 0), around)):
            self.assertEqual(paper_fault(report, "e", 1, paper), ())

    def test_papers_that_are_none_within(self):
        report = report_of_sets({"a": {0, 1}, "b": {1, 2}, "c": {2, 0}})
        names, paper = fewest_runs(report, "e")
        for number in (0, 1):
            for thing in NO_PAPERS:
                if thing is not None:
                    rows = list(paper[1])
                    rows[number] = (rows[number][0], thing)
                    self.assertEqual(paper_fault(report, "e", 1, (paper[0], rows)), (rows[number][0],))

    def test_none_of_no_runs(self):
        report = reported({"e": LOOP})
        for many in (0, 1, 7, GREAT):
            self.assertEqual(paper_fault(report, "e", many, None), ())
            self.assertEqual(paper_fault(report, "e", many, ((0, 0), [])), ())

    def test_many_0_and_many_above_the_number_of_runs(self):
        report = report_of_sets({"a": {0}, "b": {1}})
        self.assertIsNone(paper_fault(report, "e", 0, None))
        self.assertEqual(paper_fault(report, "e", 0, ((0, 0), [("a", None), ("b", None)])), ())
        deep = (self.tell(0), [("a", (self.tell(1), [("b", None)]))])
        # Where both are taken all is met: there no paper is left for two, nor for more.
        for many in (2, 3, GREAT):
            self.assertEqual(paper_fault(report, "e", many, deep), ("a", "b"))
        self.assertEqual(paper_fault(report, "e", 1, (self.tell(0), [("a", None)])), None)
        self.assertEqual(paper_fault(report, "e", 2, (self.tell(0), [("a", (self.tell(1), [("b", (self.tell(0), [("a", None)]))]))])),
                         ("a", "b"))

    def tell(self, number):
        return (3 + 4 * number, 0)

    def test_the_names_stand_ahead_of_the_papers(self):
        report = report_of_sets({"a": {0, 1}, "b": {1, 2}, "c": {2, 0}})
        _, (point, rows) = fewest_runs(report, "e")
        self.assertEqual(paper_fault(report, "e", 1, (point, [(rows[0][0], 0), rows[1]])), (rows[0][0],))
        self.assertEqual(paper_fault(report, "e", 1, (point, [(rows[0][0], 0), rows[1], ("zz", None)])), ())
        self.assertEqual(paper_fault(report, "e", 1, ((0, 0), [(run, 0) for run in "abc"])), ("a",))
        self.assertEqual(paper_fault(report, "e", 1, ((6, 1), [(rows[0][0], 0), rows[1]])), ())

    def test_no_edition_then_no_number(self):
        report = report_of_sets({"a": {0}})
        numbers = [thing for thing in NO_WHOLES] + [-1, -GREAT, -7, "0", 1.0]
        for name in ["none"] + NO_NAMES:
            for many in (0, -1, None):
                with self.assertRaises(NoEdition) as caught:
                    paper_fault(report, name, many, None)
                self.assertIs(caught.exception.name, name)
        for many in numbers:
            for paper in (None, (), 0, []):
                self.assertRaises(NoNumber, paper_fault, report, "e", many, paper)

    def test_of_the_edition_that_is_asked_alone(self):
        report = report_of_sets({"a": {0}, "b": {1}})
        report.add_edition("f", Program(CHOOSING))
        add_run(report, "f", "a", [1, 1])
        self.assertEqual(fewest_runs(report, "f"), (["a"], None))
        self.assertEqual(paper_fault(report, "f", 1, (self.tell(0), [("a", None)])), ("a",))
        self.assertIsNone(paper_fault(report, "e", 1, (self.tell(0), [("a", None)])))


def wrong_at(paper, taken):
    """What stands at the place where these runs are taken."""
    for name in taken:
        paper = dict(paper[1])[name]
    return paper


class BoundsTest(unittest.TestCase):
    def test_eight_runs_at_once(self):
        chance = random.Random(3)
        reports = [choosing_report(chance, 8, likely) for likely in (0.1, 0.2, 0.3, 0.5) for _ in range(3)]
        # Each tell is met by all runs but some: the papers are as wide as can be.
        for size in range(1, 6):
            sets = {f"r{number}": set() for number in range(8)}
            for tell, runs in zip(range(9), itertools.combinations(sorted(sets), size)):
                for run in runs:
                    sets[run].add(tell)
            reports.append(report_of_sets(sets))
        reports.append(some_report(chance, great_program(), 8))
        started = time.monotonic()
        for report in reports:
            names, paper = fewest_runs(report, "e")
            self.assertIsNone(paper_fault(report, "e", len(names) - 1, paper))
        self.assertLess(time.monotonic() - started, 4)

    def test_a_report_of_several_editions(self):
        report = Report()
        self.assertRaises(NoEdition, fewest_runs, report, "e")


if __name__ == "__main__":
    unittest.main()
