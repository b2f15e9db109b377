import copy
import itertools
import random
import time
import unittest

from tests.some import LOOP, great_program, some_inputs, some_programs
from tests.test_points import NO_POINTS
from tests.test_programs import main_of
from tests.test_sums import CALLS, counts_in, runs_of
from tests.things import GREAT, NO_WHOLES
from whatran.errors import Clash, NoEdition, NoName, NoPoint, NoRecord, NoRun
from whatran.marking import best_marks
from whatran.programs import Program
from whatran.records import record_by_marks, record_by_numbers
from whatran.reports import Report, join_reports
from whatran.runs import run_program

# The throughs 3 and 5 of its condition take together the same ways as 2 and 6.
CROSS = main_of("while and or = a 0 = b 0 or = a 1 = b 1", "ask a", "ask b", "end")
ONE_WAY = [(1, 0, 1), (1, 3, 1), (1, 5, 1)]
OTHER_WAY = [(1, 0, 1), (1, 2, 1), (1, 6, 1)]
NAMES = ["a", "z", "0", "9", "abcdefgh", "12345678", "a1b2", "main", "0a", "run"]
NO_NAMES = [thing for thing in NO_WHOLES if not isinstance(thing, str)] + [
    "", "A", "abcdefghi", "123456789", "a b", "a-b", "a_b", " a", "a ", "a\n", "\u00e9", "\u0661", "Z9", b"a", ["a"], ("a",),
    {"a": 1}, {"a"}, "a.b", 0, 7, GREAT, "\u00b2", "\uff41",
]


def loop_run(inputs=(), fuel=500, text=LOOP):
    return run_program(Program(text), list(inputs), fuel=fuel)


def by_all(program, seen):
    return record_by_marks(program, seen, program.ways())


def by_few(program, seen):
    return record_by_marks(program, seen, best_marks(program))


def told(report):
    """All that a report tells."""
    return {
        edition: (report.program(edition).text(), report.all_met(edition), report.all_taken(edition), {
            run: (report.counts(edition, run), report.outcome(edition, run), report.ends(edition, run),
                  report.through(edition, run), report.met(edition, run))
            for run in report.runs(edition)
        })
        for edition in report.editions()
    }


def some_report(chance, texts, names="abcdef", runs=4):
    """A report of some editions and runs, by marks and by numbers, with the runs as they were seen."""
    report = Report()
    known = {}
    for name, text in zip(chance.sample(names, len(texts)), texts):
        program = Program(text)
        report.add_edition(name, program)
        for run in chance.sample(NAMES, runs):
            seen = runs_of(program, chance, 1)[0]
            sort = chance.choice([by_all, by_few, record_by_numbers])
            report.add(name, run, sort(program, seen))
            known[(name, run)] = (program, seen, sort)
    return report, known


class EditionsTest(unittest.TestCase):
    def test_a_new_report_is_empty(self):
        report = Report()
        self.assertEqual(report.editions(), [])
        self.assertIs(report.busy(), False)

    def test_names_that_are_some(self):
        report = Report()
        for name in NAMES:
            report.add_edition(name, Program(LOOP))
        self.assertEqual(report.editions(), sorted(NAMES))
        for name in NAMES:
            self.assertEqual(report.program(name), Program(LOOP))
            self.assertEqual(report.runs(name), [])
            self.assertEqual((report.all_met(name), report.all_taken(name)), ({}, {}))
            self.assertEqual(report.who(name, (0, 0)), [])

    def test_names_that_are_none(self):
        report = Report()
        for name in NO_NAMES:
            self.assertRaises(NoName, report.add_edition, name, Program(LOOP))
        self.assertEqual(report, Report())

    def test_again_the_same_is_nothing_new_and_another_is_refused(self):
        report = Report()
        report.add_edition("one", Program(LOOP))
        report.add("one", "r", by_few(Program(LOOP), loop_run()))
        before = told(report)
        report.add_edition("one", Program(LOOP))
        self.assertEqual(told(report), before)
        with self.assertRaises(Clash) as caught:
            report.add_edition("one", Program(CALLS))
        self.assertEqual(caught.exception.name, "one")
        self.assertEqual(told(report), before)


class AddTest(unittest.TestCase):
    def setUp(self):
        self.program = Program(LOOP)
        self.seen = loop_run()
        self.record = by_few(self.program, self.seen)
        self.report = Report()
        self.report.add_edition("one", self.program)

    def refused(self, error, name, *arguments, **more):
        before = told(self.report)
        with self.assertRaises(error) as caught:
            self.report.add(*arguments, **more)
        if error in (NoEdition, Clash):
            self.assertEqual(caught.exception.name, name)
        self.assertIs(self.report.busy(), False)
        self.assertEqual(told(self.report), before)

    def test_refusals_in_their_order(self):
        for edition in ["two", "", "One", "one "] + NO_NAMES:
            for run in ("r", "", None, []):
                for record in (self.record, None, []):
                    before = told(self.report)
                    with self.assertRaises(NoEdition) as caught:
                        self.report.add(edition, run, record)
                    self.assertIs(caught.exception.name, edition)
                    self.assertEqual(told(self.report), before)
        for run in NO_NAMES:
            for record in (self.record, None, []):
                self.refused(NoName, None, "one", run, record)
        for record in (None, [], "x", 0, (), self.record[:3], ("marks", "ended", (), [])):
            self.refused(NoRecord, None, "one", "r", record)

    def test_no_record_comes_ahead_of_clash(self):
        self.report.add("one", "r", self.record)
        self.refused(NoRecord, None, "one", "r", ("marks", "ended", (), []))
        self.refused(Clash, "r", "one", "r", ("marks", "ended", (), [((1, 0, "yes"), 3)]))

    def test_other_counts_outcomes_and_ends(self):
        program = Program(main_of("ask a", "if = a 1", "stop", "end", "ask b", "tell b"))
        self.report.add_edition("two", program)
        first = run_program(program, [0])
        self.report.add("two", "r", by_few(program, first))
        for inputs, fuel in [([1], 500), ([0, 1], 500), ([], 500), ([0], 2), ([0], 3), ([0, 2], 5)]:
            seen = run_program(program, inputs, fuel=fuel)
            for sort in (by_few, by_all, record_by_numbers):
                self.refused(Clash, "r", "two", "r", sort(program, seen))
        # The same ways and the same ends, but another outcome: the fuel was spent at the ask.
        self.assertEqual((first.outcome(), first.ends()), ("dry", ((5, 0),)))
        self.refused(Clash, "r", "two", "r", ("numbers", "spent", first.ends(), [(2, 0, 1)]))
        self.report.add("two", "r", record_by_numbers(program, first))

    def test_the_same_counts_with_other_ends(self):
        program = Program("def p\nend\ndef main\ncall p\nend")
        self.report.add_edition("two", program)
        self.report.add("two", "r", ("numbers", "spent", ((3, 0),), []))
        self.refused(Clash, "r", "two", "r", ("numbers", "spent", ((3, 0), (0, 0)), []))
        self.assertEqual(self.report.met("two", "r"), {(2, 0): 1, (3, 0): 1})
        self.report.add("two", "s", ("numbers", "spent", ((3, 0), (0, 0)), []))
        self.assertEqual(self.report.counts("two", "r"), self.report.counts("two", "s"))
        self.assertEqual(self.report.met("two", "s"), {(0, 0): 1, (2, 0): 1, (3, 0): 1})

    def test_the_same_again_also_by_other_marks(self):
        for sort in (by_few, by_all):
            self.report.add("one", "r", sort(self.program, self.seen))
            self.assertIsNone(self.report.through("one", "r"))
            self.assertEqual(self.report.runs("one"), ["r"])

    def test_numbers_behind_marks_and_marks_behind_numbers(self):
        for sorts in itertools.permutations([by_few, by_all, record_by_numbers]):
            report = Report()
            report.add_edition("one", self.program)
            known = False
            for sort in sorts:
                report.add("one", "r", sort(self.program, self.seen))
                known = known or sort is record_by_numbers
                self.assertEqual(report.through("one", "r"), self.seen.through() if known else None)
            report.add("one", "r", record_by_numbers(self.program, self.seen))
            self.assertEqual(report.through("one", "r"), self.seen.through())

    def test_other_numbers_of_the_same_counts(self):
        program = Program(CROSS)
        one, other = ("numbers", "ended", (), ONE_WAY), ("numbers", "ended", (), OTHER_WAY)
        self.report.add_edition("two", program)
        self.report.add("two", "r", one)
        self.report.add("two", "s", other)
        counts = self.report.counts("two", "r")
        self.assertEqual(counts, self.report.counts("two", "s"))
        self.refused(Clash, "r", "two", "r", other)
        self.refused(Clash, "s", "two", "s", one)
        # Marks tell no numbers, so they go with either.
        marks = ("marks", "ended", (), sorted(counts.items()))
        before = told(self.report)
        self.report.add("two", "r", marks)
        self.report.add("two", "s", marks)
        self.assertEqual(told(self.report), before)
        for run, record in (("t", one), ("u", other)):
            self.report.add("two", run, marks)
            self.report.add("two", run, record)
            self.assertEqual(self.report.through("two", run), {entry[:2]: entry[2] for entry in record[3]})

    def test_a_record_handed_in_stays_and_may_be_changed_behind(self):
        record = record_by_numbers(self.program, self.seen)
        before = copy.deepcopy(record)
        self.report.add("one", "r", record)
        self.assertEqual(record, before)
        due = told(self.report)
        record[3].clear()
        self.assertEqual(told(self.report), due)


class WatchTest(unittest.TestCase):
    def setUp(self):
        self.program = Program(LOOP)
        self.record = by_few(self.program, loop_run())
        self.report = Report()
        self.report.add_edition("one", self.program)
        self.calls = []

    def watch(self, *arguments, **more):
        self.calls.append((arguments, more, self.report.busy(), self.report.runs("one"), self.report.editions()))

    def test_called_once_with_nothing_and_busy_within(self):
        self.report.add("one", "r", self.record, watch=self.watch)
        self.assertEqual(self.calls, [((), {}, True, [], ["one"])])
        self.assertIs(self.report.busy(), False)
        self.assertEqual(self.report.runs("one"), ["r"])
        self.report.add("one", "r", self.record, watch=self.watch)
        self.assertEqual(self.calls[1:], [((), {}, True, ["r"], ["one"])])

    def test_behind_no_edition_and_no_name(self):
        for edition, run, error in [("two", "r", NoEdition), ([], "r", NoEdition), ("one", "", NoName), ("one", [], NoName)]:
            with self.assertRaises(error):
                self.report.add(edition, run, None, watch=self.watch)
            self.assertEqual(self.calls, [])
            self.assertIs(self.report.busy(), False)

    def test_ahead_of_all_looks_at_the_record(self):
        for record in (None, [], ("marks", "ended", (), [])):
            self.calls.clear()
            with self.assertRaises(NoRecord):
                self.report.add("one", "r", record, watch=self.watch)
            self.assertEqual(len(self.calls), 1)
            self.assertIs(self.report.busy(), False)
        # What is done to the record by then is looked at.
        numbers = []
        self.report.add("one", "r", ("marks", "ended", (), numbers), watch=lambda: numbers.append(((1, 0, "yes"), 2)))
        self.assertEqual(self.report.counts("one", "r")[(2, 0, "on")], 2)

    def test_ahead_of_a_clash(self):
        self.report.add("one", "r", self.record)
        with self.assertRaises(Clash):
            self.report.add("one", "r", ("marks", "ended", (), [((1, 0, "yes"), 3)]), watch=self.watch)
        self.assertEqual(len(self.calls), 1)
        self.assertIs(self.report.busy(), False)

    def test_what_watch_raises_goes_on(self):
        class Mine(BaseException):
            pass

        for error in (Mine, KeyError, NoRecord, Clash, RuntimeError, KeyboardInterrupt):
            made = error("why")
            busy = []

            def watch():
                busy.append(self.report.busy())
                raise made

            for record in (self.record, None):
                with self.assertRaises(error) as caught:
                    self.report.add("one", "r", record, watch=watch)
                self.assertIs(caught.exception, made)
                self.assertIs(self.report.busy(), False)
                self.assertEqual(self.report.runs("one"), [])
            self.assertEqual(busy, [True, True])
        self.report.add("one", "r", self.record)
        self.assertEqual(self.report.runs("one"), ["r"])

    def test_another_report_is_not_busy(self):
        other = Report()
        found = []
        self.report.add("one", "r", self.record, watch=lambda: found.append(other.busy()))
        self.assertEqual(found, [False])

    def test_watch_may_ask_the_report_anything(self):
        self.report.add("one", "q", self.record)
        found = []

        def watch():
            found.append(told(self.report))
            for wrong in ("two", []):
                self.assertRaises(NoEdition, self.report.met, wrong, "q")

        before = told(self.report)
        self.report.add("one", "r", self.record, watch=watch)
        self.assertEqual(found, [before])


class ToldTest(unittest.TestCase):
    def test_each_method_tells_what_the_runs_did(self):
        chance = random.Random(15)
        for texts in [[LOOP], [CALLS, CROSS], some_programs(71, 3, 40, 5), [great_program()], some_programs(72, 4, 24, 4)]:
            report, known = some_report(chance, texts)
            for (edition, run), (program, seen, sort) in known.items():
                self.assertEqual(report.program(edition), program)
                self.assertEqual(report.counts(edition, run), counts_in(program, [seen]))
                self.assertEqual(report.outcome(edition, run), seen.outcome())
                self.assertEqual(report.ends(edition, run), seen.ends())
                self.assertEqual(report.met(edition, run), seen.met())
                through = seen.through() if sort is record_by_numbers else None
                self.assertEqual(report.through(edition, run), through)
            self.check_editions(report, known)

    def check_editions(self, report, known):
        self.assertEqual(report.editions(), sorted({edition for edition, _ in known}))
        for edition in report.editions():
            runs = {run: seen for (name, run), (_, seen, _) in known.items() if name == edition}
            self.assertEqual(report.runs(edition), sorted(runs))
            met, taken = {}, {}
            for seen in runs.values():
                for point, many in seen.met().items():
                    met[point] = met.get(point, 0) + many
                for way, many in seen.taken().items():
                    taken[way] = taken.get(way, 0) + many
            self.assertEqual(report.all_met(edition), met)
            self.assertEqual(report.all_taken(edition), taken)
            for point in report.program(edition).points():
                due = sorted(run for run in runs if point in runs[run].met())
                self.assertEqual(report.who(edition, point), due)

    def test_runs_stand_in_the_order_of_python(self):
        report = Report()
        report.add_edition("one", Program(LOOP))
        record = by_few(Program(LOOP), loop_run())
        for run in NAMES:
            report.add("one", run, record)
        self.assertEqual(report.runs("one"), sorted(NAMES))
        self.assertEqual(report.who("one", (1, 0)), sorted(NAMES))
        self.assertEqual(report.who("one", (2, 0)), sorted(NAMES))

    def test_what_was_told_and_changed_changes_nothing(self):
        report, known = some_report(random.Random(16), [LOOP, CALLS])
        before = told(report)
        for edition in report.editions():
            for thing in (report.editions(), report.runs(edition), report.who(edition, (0, 0))):
                thing.append("mine")
                thing.reverse()
            for thing in (report.all_met(edition), report.all_taken(edition)):
                thing.clear()
            for run in report.runs(edition):
                for method in (report.counts, report.met, report.through):
                    thing = method(edition, run)
                    if thing is not None:
                        thing.clear()
        self.assertEqual(told(report), before)

    def test_refusals_in_their_order(self):
        report = Report()
        report.add_edition("one", Program(LOOP))
        report.add("one", "r", by_few(Program(LOOP), loop_run()))
        plain = (report.runs, report.program, report.all_met, report.all_taken)
        of_run = (report.counts, report.outcome, report.ends, report.through, report.met)
        for edition in ["two", "", "r"] + NO_NAMES:
            for method in plain:
                self.refused(NoEdition, edition, method, edition)
            for method in of_run + (report.who,):
                for other in ("r", "x", None, [], (0, 0)):
                    self.refused(NoEdition, edition, method, edition, other)
        for run in ["x", "", "one", "R"] + NO_NAMES:
            for method in of_run:
                self.refused(NoRun, run, method, "one", run)
        for point in NO_POINTS:
            self.assertRaises(NoPoint, report.who, "one", point)

    def refused(self, error, name, method, *arguments):
        with self.assertRaises(error) as caught:
            method(*arguments)
        self.assertIs(caught.exception.name, name)


class JoinTest(unittest.TestCase):
    def some_parts(self, chance):
        """Reports that tell of the same runs, some by marks and some by numbers, and of others."""
        texts = [LOOP, CALLS, CROSS, great_program()]
        runs = {}
        for at, text in enumerate(texts):
            for run in NAMES[:4]:
                runs[("e" + str(at), run)] = (Program(text), runs_of(Program(text), chance, 1)[0])
        for _ in range(4):
            report = Report()
            for edition, run in chance.sample(sorted(runs), 9):
                program, seen = runs[(edition, run)]
                report.add_edition(edition, program)
                report.add(edition, run, chance.choice([by_all, by_few, record_by_numbers])(program, seen))
            yield report

    def test_in_any_order_and_however_often(self):
        chance = random.Random(17)
        for _ in range(4):
            parts = list(self.some_parts(chance))
            before = [told(part) for part in parts]
            due = None
            for order in itertools.permutations(range(4)):
                joined = Report()
                for at in order:
                    joined = join_reports(joined, parts[at])
                    if chance.random() < 0.3:
                        joined = join_reports(parts[at], joined)
                due = due or joined
                self.assertEqual(joined, due)
                self.assertEqual(told(joined), told(due))
            one, two, three, four = parts
            self.assertEqual(join_reports(join_reports(one, two), join_reports(four, three)), due)
            self.assertEqual(join_reports(due, due), due)
            self.assertEqual([told(part) for part in parts], before)
            self.check_sum(due, parts)

    def check_sum(self, joined, parts):
        self.assertEqual(joined.editions(), sorted({name for part in parts for name in part.editions()}))
        for name in joined.editions():
            having = [part for part in parts if name in part.editions()]
            self.assertEqual(joined.runs(name), sorted({run for part in having for run in part.runs(name)}))
            for run in joined.runs(name):
                known = [part for part in having if run in part.runs(name)]
                throughs = [part.through(name, run) for part in known if part.through(name, run) is not None]
                self.assertEqual(joined.through(name, run), throughs[0] if throughs else None)
                self.assertEqual(joined.counts(name, run), known[0].counts(name, run))

    def test_the_joined_report_is_a_new_one(self):
        one, two = Report(), Report()
        for report in (one, two):
            report.add_edition("one", Program(LOOP))
        joined = join_reports(one, two)
        self.assertIsNot(joined, one)
        joined.add("one", "r", by_few(Program(LOOP), loop_run()))
        joined.add_edition("two", Program(CALLS))
        self.assertEqual(one.runs("one") + two.runs("one"), [])
        self.assertEqual(one.editions(), ["one"])
        one.add("one", "s", by_few(Program(LOOP), loop_run()))
        self.assertEqual(joined.runs("one"), ["r"])
        self.assertIs(joined.busy(), False)

    def clash(self, name, one, two):
        before = told(one), told(two)
        for first, second in ((one, two), (two, one)):
            with self.assertRaises(Clash) as caught:
                join_reports(first, second)
            self.assertEqual(caught.exception.name, name)
        self.assertEqual((told(one), told(two)), before)

    def test_the_least_edition_comes_first(self):
        one, two = Report(), Report()
        for name in ["e", "d", "b", "c"]:
            one.add_edition(name, Program(LOOP))
            two.add_edition(name, Program(LOOP if name in "be" else CALLS))
        one.add_edition("a", Program(CALLS))
        two.add_edition("f", Program(CALLS))
        one.add("b", "a", ("marks", "ended", (), [((1, 0, "yes"), 2)]))
        two.add("b", "a", ("marks", "ended", (), [((1, 0, "yes"), 3)]))
        self.clash("c", one, two)

    def test_then_the_least_run_of_the_least_edition(self):
        one, two = Report(), Report()
        for name, run, numbers in [("x", "a", 0), ("b", "r", 2), ("b", "q", 2), ("b", "p", 7), ("a", "z", 5), ("c", "a", 4)]:
            for report, many in ((one, numbers), (two, 7 if name in "bc" else numbers)):
                report.add_edition(name, Program(LOOP))
                report.add(name, run, ("marks", "ended", (), [((1, 0, "yes"), many)]))
        self.clash("q", one, two)

    def test_clash_by_other_throughs_ends_and_outcomes(self):
        asking = "def p\nend\n" + main_of("ask a", "call p")
        for text, record, other in [
            (CROSS, ("numbers", "ended", (), ONE_WAY), ("numbers", "ended", (), OTHER_WAY)),
            (asking, ("numbers", "spent", ((3, 0),), []), ("numbers", "dry", ((3, 0),), [])),
            (asking, ("numbers", "spent", ((4, 0),), []), ("numbers", "spent", ((4, 0), (0, 0)), [])),
        ]:
            one, two = Report(), Report()
            for report, given in ((one, record), (two, other)):
                report.add_edition("e", Program(text))
                report.add("e", "r", given)
            self.clash("r", one, two)


class AlikeTest(unittest.TestCase):
    def report(self, text=LOOP, edition="one", run="r", record=None):
        report = Report()
        report.add_edition(edition, Program(text))
        if run is not None:
            report.add(edition, run, record or record_by_numbers(Program(text), run_program(Program(text), [])))
        return report

    def test_alike_and_unlike(self):
        base = self.report()
        self.assertTrue(base == self.report())
        self.assertFalse(base != self.report())
        program = Program(LOOP)
        seen = loop_run()
        others = [
            Report(), self.report(run=None), self.report(edition="two"), self.report(run="s"), self.report(CALLS),
            self.report(LOOP.replace("a 2", "a 3")), self.report(record=by_few(program, seen)),
            self.report(record=("numbers", "ended", (), [(1, 0, 1), (1, 1, 3)])),
            self.report(record=("numbers", "spent", ((1, 0),), [(1, 1, 2)])),
        ]
        more = self.report()
        more.add_edition("two", program)
        others.append(more)
        again = self.report()
        again.add("one", "s", by_few(program, seen))
        others.append(again)
        for one, other in itertools.combinations([base] + others, 2):
            self.assertFalse(one == other)
            self.assertTrue(one != other)

    def test_unlike_in_one_outcome_or_end_alone(self):
        program = Program("def p\nend\ndef main\nask a\ncall p\nend")
        one = self.report(program.text(), record=("numbers", "dry", ((3, 0),), []))
        other = self.report(program.text(), record=("numbers", "spent", ((3, 0),), []))
        self.assertFalse(one == other)
        one = self.report(program.text(), record=("numbers", "spent", ((4, 0),), []))
        other = self.report(program.text(), record=("numbers", "spent", ((4, 0), (0, 0)), []))
        self.assertFalse(one == other)

    def test_in_whatever_order_they_were_told(self):
        one, other = Report(), Report()
        for report, names in ((one, ["a", "b"]), (other, ["b", "a"])):
            for name in names:
                report.add_edition(name, Program(LOOP))
                for run in names:
                    report.add(name, run, by_few(Program(LOOP), loop_run()))
        self.assertTrue(one == other)

    def test_never_like_what_is_no_report(self):
        for report in (Report(), self.report()):
            for thing in [None, 0, "", [], {}, (), True, object(), Report, Program(LOOP), float("nan")]:
                self.assertFalse(report == thing)
                self.assertTrue(report != thing)
                self.assertFalse(thing == report)


class BoundsTest(unittest.TestCase):
    def test_many_runs_of_sixty_rows(self):
        started = time.monotonic()
        program = Program(great_program())
        chance = random.Random(18)
        report = Report()
        report.add_edition("one", program)
        for at in range(100):
            seen = run_program(program, some_inputs(chance), fuel=5000)
            report.add("one", f"r{at}", record_by_numbers(program, seen) if at % 2 else by_few(program, seen))
        self.assertEqual(len(report.runs("one")), 100)
        self.assertEqual(report.all_met("one")[program.begin("main")], 100)
        self.assertEqual(len(report.who("one", program.begin("main"))), 100)
        self.assertEqual(join_reports(report, report), report)
        self.assertLess(time.monotonic() - started, 60)

    def test_numbers_of_sixty_figures(self):
        report = Report()
        report.add_edition("one", Program(LOOP))
        for run in ("r", "s"):
            report.add("one", run, ("marks", "ended", (), [((1, 0, "yes"), GREAT)]))
        self.assertEqual(report.all_taken("one")[(2, 0, "on")], 2 * GREAT)
        self.assertEqual(report.all_met("one")[(1, 0)], 2 * GREAT + 2)


if __name__ == "__main__":
    unittest.main()
