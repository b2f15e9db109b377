import copy
import random
import time
import unittest

from tests.plain import Machine
from tests.some import LOOP, great_program, some_inputs, some_programs
from tests.test_editions import changed_text, why_in
from tests.test_marking import PLAIN, at_bounds
from tests.test_programs import main_of
from tests.test_reports import CROSS, NAMES, NO_NAMES, ONE_WAY, OTHER_WAY, by_all, by_few, told
from tests.test_sums import CALLS, counts_in
from whatran.editions import kept_rows, led_counts
from whatran.errors import Clash, NoEdition
from whatran.leading import lead_over, to_run
from whatran.programs import Program
from whatran.records import record_by_marks, record_by_numbers
from whatran.reports import Report, join_reports
from whatran.runs import run_program

SORTS = [by_few, by_all, record_by_numbers]
# A row more at the end of the first branch: runs that go by the other one go on.
BRANCH = main_of("ask a", "if and < a 2 < b 2", "tell a", "else", "tell b", "end")
OTHER_BRANCH = main_of("ask a", "if and < a 2 < b 2", "tell a", "tell 3", "else", "tell b", "end")


def seen_run(text, inputs=(), fuel=500):
    return run_program(Program(text), list(inputs), fuel=fuel)


def reported(texts):
    """A report of these editions, without runs."""
    report = Report()
    for name, text in texts.items():
        report.add_edition(name, Program(text))
    return report


def add_run(report, edition, run, inputs=(), fuel=500, sort=record_by_numbers):
    program = report.program(edition)
    seen = run_program(program, list(inputs), fuel=fuel)
    report.add(edition, run, sort(program, seen))
    return seen


def run_told(program, seen, sort):
    """What a report tells of a run that was told to it so."""
    through = seen.through() if sort is record_by_numbers else None
    return counts_in(program, [seen]), seen.outcome(), seen.ends(), through, seen.met()


def some_leading(start, texts, each=3):
    """Reports of two editions with runs of the old one, and how each of these was run."""
    chance = random.Random(start)
    for text in texts:
        for times in range(1, each + 1):
            report = reported({"old": text, "new": changed_text(chance, text, times)})
            known = {}
            for run in chance.sample(NAMES, chance.randint(0, 6)):
                inputs, fuel = some_inputs(chance), chance.choice([1, 2, 4, 9, 40, 500])
                sort = chance.choice(SORTS)
                add_run(report, "old", run, inputs, fuel, sort)
                known[run] = (inputs, fuel, sort)
            yield report, known


class LeadTest(unittest.TestCase):
    def led(self, report, old="old", new="new"):
        """What is told behind it, and that the old report stays."""
        before = copy.deepcopy(told(report))
        led = lead_over(report, old, new)
        self.assertIs(type(led), Report)
        self.assertIsNot(led, report)
        self.assertEqual(told(report), before)
        self.assertIs(led.busy(), False)
        return led

    def test_each_run_that_goes_on_has_what_its_run_in_the_new_edition_has(self):
        many = {True: 0, False: 0}
        texts = PLAIN + some_programs(201, 60, 30, 4) + [great_program()]
        for report, known in some_leading(1, texts):
            led = self.led(report)
            old, new = report.program("old"), report.program("new")
            staying = dict(to_run(report, "old", "new"))
            due = told(report)
            due.update(told(led_by_hand(report, known, staying)))
            self.assertEqual(told(led), due)
            for run, (inputs, fuel, _) in known.items():
                many[run in staying] += 1
                if run not in staying:
                    one, other = (run_program(program, inputs, fuel=fuel) for program in (old, new))
                    self.assertEqual((one.told(), one.asked(), one.outcome()), (other.told(), other.asked(), other.outcome()))
        self.assertGreater(min(many.values()), 150)

    def test_the_counts_are_those_that_led_counts_tells(self):
        for report, known in some_leading(2, some_programs(202, 30, 30, 4)):
            led = self.led(report)
            old, new = report.program("old"), report.program("new")
            for run in led.runs("new"):
                due = led_counts(old, new, report.counts("old", run), report.ends("old", run))
                self.assertEqual((led.counts("new", run), led.ends("new", run)), due)
                self.assertEqual(led.outcome("new", run), report.outcome("old", run))

    def test_a_row_put_in_left_out_exchanged(self):
        body = ["ask a", "while and < a 2 not = b 3", "set b b + 1", "ask a", "end", "tell b", "if = a 3", "stop", "end"]
        many = {True: 0, False: 0}
        for at in range(len(body) + 1):
            for rows in (body[:at] + ["tell c"] + body[at:], body[:at] + body[at + 1:], body[:at] + ["tell c"] + body[at + 1:],
                         body[:at] + ["if = c 1", "end"] + body[at:], ["tell a"] + body[:at]):
                try:
                    report = reported({"old": main_of(*body), "new": main_of(*rows)})
                except ValueError:
                    continue
                known = {}
                for number, inputs in enumerate([[], [3], [2], [0], [0, 0], [0, 2], [0, 1, 0, 1, 0], [1, 1, 1, 1, 3]]):
                    for fuel in (3, 6, 500):
                        run = f"r{number}f{fuel}"
                        known[run] = (inputs, fuel, record_by_numbers)
                        add_run(report, "old", run, *known[run])
                led = self.led(report)
                staying = dict(to_run(report, "old", "new"))
                self.assertEqual(told(led)["new"], told(led_by_hand(report, known, staying))["new"])
                for run in known:
                    many[run in staying] += 1
        self.assertGreater(min(many.values()), 100)

    def test_all_of_the_old_report_is_in_it(self):
        report = reported({"old": BRANCH, "new": OTHER_BRANCH, "z": CALLS, "empty": LOOP})
        add_run(report, "old", "r1", [1])
        add_run(report, "old", "r3", [3], sort=by_few)
        add_run(report, "new", "own", [0], sort=by_few)
        add_run(report, "z", "x", [], 7)
        before = told(report)
        after = told(self.led(report))
        self.assertEqual(sorted(after), ["empty", "new", "old", "z"])
        for edition in ("old", "z", "empty"):
            self.assertEqual(after[edition], before[edition])
        self.assertEqual(sorted(after["new"][3]), ["own", "r3"])
        self.assertEqual(after["new"][3]["own"], before["new"][3]["own"])

    def test_throughs_go_by_their_rows_in_the_new_edition(self):
        old = main_of("while < a 3", "set a a + 1", "if or = a 1 = b 2", "end", "end")
        new = main_of("while < a 3", "set a a + 1", "if or = a 1 = b 2", "end", "end", "tell b")
        moved = "def w\nif = a b\nend\nend\n" + old
        for text, shift in ((old, 0), (moved, 4)):
            report = reported({"old": old, "new": text})
            seen = add_run(report, "old", "r")
            add_run(report, "old", "s", sort=by_few)
            led = self.led(report)
            self.assertEqual(led.through("new", "r"), {(row + shift, number): many for (row, number), many in seen.through().items()})
            self.assertEqual(len(led.through("new", "r")), 4)
            self.assertIsNone(led.through("new", "s"))
        report = reported({"old": old, "new": new})
        add_run(report, "old", "r")
        self.assertEqual(self.led(report).runs("new"), [])

    def test_throughs_that_are_known_but_none(self):
        report = reported({"old": main_of("tell a"), "new": main_of("tell a", "stop")})
        add_run(report, "old", "r", fuel=2)
        self.assertEqual(report.through("old", "r"), {})
        self.assertEqual(self.led(report).through("new", "r"), {})

    def test_runs_that_are_there_alike(self):
        for first in SORTS:
            for second in SORTS:
                report = reported({"old": BRANCH, "new": OTHER_BRANCH})
                seen = add_run(report, "old", "r", [3], sort=first)
                again = add_run(report, "new", "r", [3], sort=second)
                led = self.led(report)
                known = record_by_numbers in (first, second)
                self.assertEqual(led.through("new", "r"), again.through() if known else None)
                self.assertEqual(led.through("old", "r"), seen.through() if first is record_by_numbers else None)
                self.assertEqual(led.counts("new", "r"), report.counts("new", "r"))
                self.assertEqual(led.runs("new"), ["r"])

    def clash(self, report, name, old="old", new="new"):
        before = copy.deepcopy(told(report))
        with self.assertRaises(Clash) as caught:
            lead_over(report, old, new)
        self.assertEqual(caught.exception.name, name)
        self.assertEqual(told(report), before)

    def test_clash_with_other_counts_outcomes_and_ends(self):
        text = main_of("ask a", "tell a", "ask b", "tell b")
        for inputs, fuel in [([1, 1], 500), ([1], 3), ([], 500), ([1], 2), ([], 1)]:
            for sort in SORTS:
                report = reported({"old": text, "new": text})
                add_run(report, "old", "r", [1])
                add_run(report, "new", "r", inputs, fuel, sort)
                if (inputs, fuel) == ([1], 500):
                    self.led(report)
                else:
                    self.clash(report, "r")
        # The same ways and ends, but another outcome.
        report = reported({"old": text, "new": text})
        add_run(report, "old", "r", [])
        add_run(report, "new", "r", [0], 2)
        self.assertEqual(report.ends("old", "r"), report.ends("new", "r"))
        self.clash(report, "r")

    def test_clash_with_other_throughs_of_the_same_counts(self):
        records = {"one": ("numbers", "ended", (), ONE_WAY), "other": ("numbers", "ended", (), OTHER_WAY)}
        for first, second in (("one", "other"), ("other", "one"), ("one", "one")):
            report = reported({"old": CROSS, "new": CROSS})
            report.add("old", "r", records[first])
            report.add("new", "r", records[second])
            if first == second:
                self.assertEqual(self.led(report), report)
            else:
                self.clash(report, "r")

    def test_clash_of_the_least_run(self):
        names = ["z", "9", "b", "a1", "0", "zz"]
        for start in range(6):
            chance = random.Random(start)
            report = reported({"old": BRANCH, "new": OTHER_BRANCH})
            for run in chance.sample(names, len(names)):
                add_run(report, "old", run, [3], sort=chance.choice(SORTS))
            wrong = chance.sample(names, 3)
            for run in wrong:
                add_run(report, "new", run, [0], sort=chance.choice(SORTS))
            self.clash(report, min(wrong))

    def test_no_clash_with_runs_that_do_not_go_on(self):
        report = reported({"old": BRANCH, "new": OTHER_BRANCH})
        add_run(report, "old", "r", [0])
        add_run(report, "old", "s", [3])
        add_run(report, "new", "r", [2])
        led = self.led(report)
        self.assertEqual(told(led)["new"][3]["r"], told(report)["new"][3]["r"])
        self.assertEqual(led.runs("new"), ["r", "s"])

    def test_an_edition_over_itself_changes_nothing(self):
        for report, _ in some_leading(3, some_programs(203, 10, 30, 4) + [great_program()]):
            self.assertEqual(self.led(report, "old", "old"), report)
            self.assertEqual(to_run(report, "old", "old"), [])

    def test_an_edition_of_the_same_text(self):
        for text in PLAIN + [great_program()]:
            report = reported({"old": text, "new": text})
            for number, sort in enumerate(SORTS):
                add_run(report, "old", f"r{number}", [1, 2, 3], 30 + number, sort)
            led = self.led(report)
            self.assertEqual(told(led)["new"], told(report)["old"])
            self.assertEqual(to_run(report, "old", "new"), [])

    def test_chains_of_editions(self):
        texts = {"e1": BRANCH, "e2": "def p\nend\n" + BRANCH, "e3": "def p\nend\ndef q\nif = a b\nend\nend\n" + BRANCH,
                 "e4": OTHER_BRANCH}
        report = reported(texts)
        for number, inputs in enumerate([[0], [3], [], [2]]):
            add_run(report, "e1", f"r{number}", inputs, sort=SORTS[number % 3])
        chained = report
        for old, new in (("e1", "e2"), ("e2", "e3"), ("e3", "e4")):
            chained = self.led(chained, old, new)
        straight = report
        for new in ("e4", "e3", "e2"):
            straight = self.led(straight, "e1", new)
        self.assertEqual(chained, straight)
        self.assertEqual(chained.runs("e4"), ["r1", "r2", "r3"])
        self.assertEqual(to_run(chained, "e3", "e4"), [("r0", ("way", (texts["e3"].split("\n").index("tell a"), 0, "on")))])
        self.assertEqual(self.led(chained, "e3", "e4"), chained)
        back = self.led(chained, "e4", "e1")
        self.assertEqual(back, chained)

    def test_runs_by_hand_that_no_inputs_make(self):
        # The while goes round by itself, apart from the way of the run.
        old = main_of("stop", "while < a 2", "set a a + 1", "end")
        new = "def w\nend\n" + old
        report = reported({"old": old, "new": new})
        ways = report.program("old").ways()
        counts = {way: 7 if way[0] in (2, 3) and way[2] != "no" else 0 for way in ways}
        counts[(0, 0, "on")] = 1
        report.add("old", "r", ("marks", "stopped", ((1, 0),), [(way, counts[way]) for way in ways]))
        led = self.led(report)
        self.assertEqual(led.counts("new", "r")[(4, 0, "yes")], 7)
        self.assertEqual(led.ends("new", "r"), ((3, 0),))

    def test_the_old_and_the_new_report_go_their_own_ways(self):
        report = reported({"old": BRANCH, "new": OTHER_BRANCH})
        add_run(report, "old", "r", [3], sort=by_few)
        led = self.led(report)
        due = told(led)
        add_run(report, "old", "r", [3])
        add_run(report, "old", "t", [2])
        report.add_edition("more", Program(LOOP))
        self.assertEqual(told(led), due)
        before = told(report)
        add_run(led, "new", "u", [0])
        led.add_edition("other", Program(LOOP))
        self.assertEqual(told(report), before)
        for table in (led.counts("new", "r"), led.met("new", "r")):
            table.clear()
        self.assertNotEqual(led.counts("new", "r"), {})

    def test_joined_before_or_behind_is_the_same(self):
        chance = random.Random(4)
        for report, known in some_leading(5, some_programs(204, 20, 30, 4)):
            texts = {name: report.program(name).text() for name in ("old", "new")}
            here, there = reported(texts), reported(texts)
            for run, how in known.items():
                add_run(chance.choice([here, there]), "old", run, *how)
            due = lead_over(join_reports(here, there), "old", "new")
            self.assertEqual(join_reports(lead_over(here, "old", "new"), lead_over(there, "old", "new")), due)
            self.assertEqual(due, lead_over(report, "old", "new"))

    def test_no_edition_of_old_first(self):
        report = reported({"old": BRANCH, "new": OTHER_BRANCH})
        add_run(report, "old", "r", [3])
        before = told(report)
        for function in (lead_over, to_run):
            for wrong in ["none", "Old", "old "] + NO_NAMES:
                for old, new in ((wrong, "new"), ("old", wrong), (wrong, wrong), (wrong, "none")):
                    with self.assertRaises(NoEdition) as caught:
                        function(report, old, new)
                    self.assertIs(caught.exception.name, wrong)
                    self.assertEqual(told(report), before)


def led_by_hand(report, known, staying):
    """The editions, with the runs that go on run anew in the new one."""
    texts = {name: report.program(name).text() for name in ("old", "new")}
    led = reported(texts)
    for run, (inputs, fuel, sort) in known.items():
        add_run(led, "old", run, inputs, fuel, sort)
        if run not in staying:
            add_run(led, "new", run, inputs, fuel, sort)
    return led


class ToRunTest(unittest.TestCase):
    def test_the_names_in_order_with_why(self):
        sorts = set()
        for report, known in some_leading(6, PLAIN + some_programs(205, 60, 30, 4)):
            before = told(report)
            due = []
            for run in sorted(known):
                old, new = report.program("old").text(), report.program("new").text()
                one = Machine(old, known[run][0], known[run][1])
                ends = () if one.outcome == "ended" else tuple(one.stack)
                why = why_in(old, new, one.counted("met"), one.counted("way"), ends)
                if why is not None:
                    due.append((run, why))
                    sorts.add(why[0])
            answer = to_run(report, "old", "new")
            self.assertEqual(answer, due)
            self.assertIs(type(answer), list)
            self.assertEqual(told(report), before)
            answer.append(None)
            self.assertEqual(to_run(report, "old", "new"), due)
        self.assertLessEqual({"point", "way"}, sorts)

    def test_none_where_there_are_no_runs(self):
        self.assertEqual(to_run(reported({"old": LOOP, "new": CALLS}), "old", "new"), [])

    def test_each_why(self):
        text = "def p\ntell a\nend\ndef main\ncall p\nask a\nend"
        report = reported({"old": text, "begin": "def q\nask a\nend\ndef p\ntell a\nend\ndef main\nend",
                           "point": text.replace("tell a", "tell b"), "way": text.replace("ask a", "tell 3\nask a")})
        add_run(report, "old", "r", [1])
        add_run(report, "old", "d")
        self.assertEqual(to_run(report, "old", "point"), [("d", ("point", (1, 0))), ("r", ("point", (1, 0)))])
        self.assertEqual(to_run(report, "old", "way"), [("d", ("way", (4, 0, "on"))), ("r", ("way", (4, 0, "on")))])
        self.assertEqual(kept_rows(report.program("old"), report.program("begin")), [(0, 3), (1, 4), (2, 5), (3, 6), (6, 7)])
        self.assertEqual(to_run(report, "old", "begin"), [("d", ("point", (4, 0))), ("r", ("point", (4, 0)))])
        body = ["tell a", "tell b", "tell c", "ask a"]
        report = reported({"old": main_of(*body), "new": "\n".join(["def p", *body, "end", "def main", "end"])})
        add_run(report, "old", "r")
        self.assertEqual(to_run(report, "old", "new"), [("r", ("begin",))])


class BoundsTest(unittest.TestCase):
    def test_sixty_rows_and_eight_runs_at_once(self):
        chance = random.Random(7)
        for text in at_bounds():
            report = reported({"old": text, "new": changed_text(chance, text, 1), "same": text})
            for number in range(8):
                add_run(report, "old", f"r{number}", some_inputs(chance), 20 * (number + 1), SORTS[number % 3])
            started = time.monotonic()
            led = lead_over(lead_over(report, "old", "new"), "old", "same")
            self.assertEqual(len(led.runs("new")) + len(to_run(report, "old", "new")), 8)
            self.assertEqual(told(led)["same"], told(report)["old"])
            self.assertLess(time.monotonic() - started, 5)


if __name__ == "__main__":
    unittest.main()
