import copy
import random
import time
import unittest

from tests.plain_texts import is_report, record_in
from tests.some import LOOP, great_program, some_inputs, some_programs
from tests.test_leading import SORTS, add_run, reported
from tests.test_marking import PLAIN, at_bounds
from tests.test_programs import main_of
from tests.test_records import MIXED, some_runs
from tests.test_reports import CROSS, NAMES, ONE_WAY, by_all, by_few, some_report, told
from tests.test_sums import CALLS
from tests.things import GREAT, NO_WHOLES
from whatran.errors import NoText, RanError
from whatran.leading import lead_over
from whatran.marking import best_marks
from whatran.programs import Program
from whatran.records import counts_of, record_by_marks, record_by_numbers
from whatran.reports import Report, join_reports
from whatran.runs import run_program
from whatran.texts import point_text, read_record, read_report, record_text, report_text, way_text

MARKS = "marks dry\nat 3.0 1.0\nway 0.0.on 2\nway 10.1.no 0\nway 10.1.yes 13"
NUMBERS = "numbers stopped\nat 7.0\nthrough 2 0 1\nthrough 2 11 30\nthrough 10 0 2"
NO_TEXTS = [thing for thing in NO_WHOLES if not isinstance(thing, str)] + [0, 1, ("marks ended", "at"), ["marks ended", "at"], b"marks ended\nat"]
SIGNS = "0123456789 .-+\n abcdefghonsyt"
WRONG_NUMBERS = ["", "00", "01", "007", "+1", "-1", "-0", "1.0", "1.", ".1", "a", "1a", "0x1", "1_0", " 1", "1 ", "--1", "1e3", "1" + "0" * 60,
                 "\u0661", "\u00b2", "1\t", "\uff11"]


def changed_signs(chance, text, many):
    """So many texts, each with a sign put in, left out or exchanged."""
    for _ in range(many):
        at = chance.randrange(len(text) + 1)
        sign = chance.choice(SIGNS)
        yield chance.choice([text[:at] + sign + text[at:], text[:at] + text[at + 1:], text[:at] + sign + text[at + 1:]])


def changed_things(text, sign):
    """The text with one row, or one word, left out, told twice, or put where another one is."""
    things = text.split(sign)
    for at, thing in enumerate(things):
        yield sign.join(things[:at] + things[at + 1:])
        yield sign.join(things[:at + 1] + things[at:])
        yield sign.join(things[:at] + [""] + things[at:])
        for other in {0, at + 1, len(things) - 1} - {at}:
            moved = list(things)
            if other < len(things):
                moved[at], moved[other] = moved[other], moved[at]
                yield sign.join(moved)


def changed_texts(chance, text, many=300):
    found = list(changed_signs(chance, text, many)) + list(changed_things(text, "\n")) + list(changed_things(text, " "))
    found += [text + "\n", "\n" + text, text + " ", " " + text, text + "\n\n", text.upper(), text.replace("\n", "\r\n"), text + "\nx",
              text.replace(" ", "  "), text.replace("\n", " "), text + "\x00", text.replace(" ", "\t"), text[::-1]]
    return found


class PartsTest(unittest.TestCase):
    def test_points_and_ways_of_programs(self):
        for text in PLAIN + [great_program()]:
            program = Program(text)
            for row, part in program.points():
                self.assertEqual(point_text((row, part)), str(row) + "." + str(part))
            for row, part, word in program.ways():
                self.assertEqual(way_text((row, part, word)), str(row) + "." + str(part) + "." + word)

    def test_by_hand(self):
        self.assertEqual([point_text(point) for point in [(0, 0), (12, 7), (59, 0)]], ["0.0", "12.7", "59.0"])
        self.assertEqual([way_text(way) for way in [(0, 0, "on"), (12, 7, "yes"), (59, 0, "no")]], ["0.0.on", "12.7.yes", "59.0.no"])


class RecordTextTest(unittest.TestCase):
    def test_by_hand(self):
        record = ("marks", "dry", ((3, 0), (1, 0)), [((0, 0, "on"), 2), ((10, 1, "no"), 0), ((10, 1, "yes"), 13)])
        self.assertEqual(record_text(record), MARKS)
        self.assertEqual(read_record(MARKS), record)
        record = ("numbers", "stopped", ((7, 0),), [(2, 0, 1), (2, 11, 30), (10, 0, 2)])
        self.assertEqual(record_text(record), NUMBERS)
        self.assertEqual(read_record(NUMBERS), record)

    def test_at_alone_and_no_rows_behind(self):
        for sort in ("marks", "numbers"):
            self.assertEqual(record_text((sort, "ended", (), [])), f"{sort} ended\nat")
            self.assertEqual(read_record(f"{sort} ended\nat"), (sort, "ended", (), []))

    def test_numbers_below_0_and_of_sixty_figures_and_more(self):
        for number, text in [(0, "0"), (-1, "-1"), (-GREAT, "-1" + "0" * 58 + "7"), (GREAT, "1" + "0" * 58 + "7"), (10 ** 60, "1" + "0" * 60),
                             (-(10 ** 90), "-1" + "0" * 90)]:
            record = ("marks", "ended", (), [((1, 0, "yes"), number)])
            self.assertEqual(record_text(record), f"marks ended\nat\nway 1.0.yes {text}")
            if 0 <= number < 10 ** 60:
                self.assertEqual(read_record(record_text(record)), record)
            else:
                self.assertRaises(NoText, read_record, record_text(record))
            record = ("numbers", "ended", (), [(1, 0, number)])
            self.assertEqual(record_text(record), f"numbers ended\nat\nthrough 1 0 {text}")
            if 0 < number < 10 ** 60:
                self.assertEqual(read_record(record_text(record)), record)
            else:
                self.assertRaises(NoText, read_record, record_text(record))

    def test_of_any_runs(self):
        outcomes = set()
        for program, seen in some_runs(501):
            for record in (record_by_numbers(program, seen), by_few(program, seen), by_all(program, seen)):
                before = copy.deepcopy(record)
                text = record_text(record)
                self.assertIs(type(text), str)
                self.assertEqual(record, before)
                self.assertEqual(record_in(text), record)
                read = read_record(text)
                self.assertEqual(read, record)
                self.assertEqual([type(thing) for thing in read], [str, str, tuple, list])
                self.assertEqual(counts_of(program, read), counts_of(program, record))
                outcomes.add(record[1])
        self.assertEqual(outcomes, {"ended", "dry", "stopped", "spent"})

    def test_what_is_told_is_new_each_time(self):
        read_record(MARKS)[3].clear()
        self.assertEqual(len(read_record(MARKS)[3]), 3)


class ReadRecordTest(unittest.TestCase):
    def check(self, text):
        """Whether it is read as the patterns tell."""
        due = record_in(text)
        if due is None:
            with self.assertRaises(RanError) as caught:
                read_record(text)
            self.assertIs(type(caught.exception), NoText)
        else:
            self.assertEqual(read_record(text), due)
            self.assertEqual(record_text(due), text)
        return due is None

    def none(self, text):
        self.assertTrue(self.check(text), text)

    def test_texts_with_a_thing_otherwise(self):
        chance = random.Random(1)
        texts = [MARKS, NUMBERS, "marks ended\nat", "numbers spent\nat 0.0"]
        for text in texts + [record_text(record_by_numbers(*run)) for run in some_runs(502, [MIXED, CALLS, great_program()])]:
            self.assertFalse(self.check(text))
            refused = [self.check(changed) for changed in changed_texts(chance, text)]
            self.assertGreater(refused.count(True), 100)

    def test_any_points_ways_and_throughs_are_read(self):
        great = str(GREAT)
        for text in [f"marks spent\nat {great}.0 0.0 {great}.0\nway 0.0.no 0\nway 0.0.on 0\nway 0.0.yes 0\nway 0.7.no {great}\nway {great}.0.on 1",
                     "marks stopped\nat 3.0 3.0", "marks dry\nat 0.0", f"numbers dry\nat 1.0\nthrough 0 {great} {great}\nthrough {great} 0 1",
                     "numbers stopped\nat 1.0\nthrough 2 9 1\nthrough 10 1 1", "marks spent\nat 1.0\nway 9.0.on 0\nway 10.0.on 0"]:
            self.assertFalse(self.check(text), text)

    def test_numbers_written_otherwise(self):
        for wrong in WRONG_NUMBERS:
            for text in [f"marks dry\nat {wrong}.0", f"marks dry\nat 3.{wrong}", f"marks dry\nat 3.0\nway {wrong}.0.on 2",
                         f"marks dry\nat 3.0\nway 0.{wrong}.no 2", f"marks dry\nat 3.0\nway 0.0.on {wrong}",
                         f"numbers dry\nat 3.0\nthrough {wrong} 0 1", f"numbers dry\nat 3.0\nthrough 0 {wrong} 1",
                         f"numbers dry\nat 3.0\nthrough 0 0 {wrong}"]:
                self.none(text)

    def test_points_and_ways_that_are_none(self):
        for word in ["1.1", "1.7", "1", "1.", ".0", "1.0.0", "1.0.on", "", "a", "1,0", "(1,0)", "1.0,2.0", "1 .0", "1.-0", "1.00", "01.0"]:
            self.none(f"marks dry\nat {word}")
            self.none(f"marks dry\nat 1.0 {word}")
        for word in ["0.1.on", "0.7.on", "0.8.yes", "0.8.no", "0.10.yes", "0.0.of", "0.0.ON", "0.0.", "0.0", "0.on", "on", "0.0.on.", ".0.0.on",
                     "0.0.on.on", "0.0.0.on", "0.0.yesno", "0..on", "", "0.0.maybe", "0.0. on", "0.0.o", "0.0.onn", "0,0,on", "0.-1.yes"]:
            self.none(f"marks ended\nat\nway {word} 1")

    def test_what_does_not_rise(self):
        for rows in [["0.0.on", "0.0.on"], ["1.0.on", "0.0.on"], ["0.0.yes", "0.0.no"], ["0.1.no", "0.0.yes"], ["10.0.on", "9.0.on"],
                     ["0.0.on", "1.0.on", "1.0.on"], ["0.0.on", "2.0.on", "1.0.on"]]:
            self.none("marks ended\nat\n" + "\n".join(f"way {way} {at + 1}" for at, way in enumerate(rows)))
        for rows in [["0 0", "0 0"], ["1 0", "0 0"], ["0 1", "0 0"], ["10 0", "9 0"], ["0 10", "0 9"], ["0 0", "1 1", "1 1"]]:
            self.none("numbers ended\nat\n" + "\n".join(f"through {row} {at + 1}" for at, row in enumerate(rows)))

    def test_outcomes_that_do_not_go_with_the_points(self):
        for sort in ("marks", "numbers"):
            self.none(f"{sort} ended\nat 1.0")
            for outcome in ("dry", "stopped", "spent"):
                self.none(f"{sort} {outcome}\nat")
                self.assertFalse(self.check(f"{sort} {outcome}\nat 1.0"))
            for outcome in ("", "end", "Ended", "ending", "wet", "ended ended", "marks", "ended."):
                self.none(f"{sort} {outcome}\nat")
                self.none(f"{sort} {outcome}\nat 1.0")

    def test_rows_of_the_other_sort_and_none(self):
        self.none("marks ended\nat\nthrough 1 0 1")
        self.none("numbers ended\nat\nway 0.0.on 1")
        self.none("marks ended\nat\nway 0.0.on 1\nthrough 1 0 1")
        self.none("numbers ended\nat\nthrough")
        self.none("numbers ended\nat\nthrough 1 0 0")
        for text in ["", " ", "\n", "marks ended", "marks", "at", "ended\nat", "at\nmarks ended", "marks ended\n", "marks ended\nat\n", "mark ended\nat",
                     "marks ended\nat\n\n", "marks ended\n\nat", "\nmarks ended\nat", "marks ended\nat\nway 0.0.on", "marks ended\nat\nway",
                     "marks ended\nat\nways 0.0.on 1", "marks ended\nat\nway 0.0.on 1 1", "marks ended\nAT", "marks ended\nat ", "record ended\nat",
                     "numbers ended\nat\nthrough 1 0", "numbers ended\nat\nthrough 1 0 1 1", "marks ended x\nat", "marks  ended\nat", "-"]:
            self.none(text)

    def test_what_is_no_text(self):
        for thing in NO_TEXTS + [read_record(MARKS), Report(), NoText]:
            self.assertRaises(NoText, read_record, thing)


def some_texts():
    """Reports with their texts."""
    chance = random.Random(2)
    yield Report()
    yield reported({"e": LOOP, "0": CALLS, "z9": "def main\nend"})
    for texts in [[LOOP], [CALLS, CROSS], some_programs(511, 3, 40, 5), [great_program()], some_programs(512, 4, 24, 4), [MIXED, LOOP, MIXED]]:
        report, _ = some_report(chance, texts)
        yield report
    for text in PLAIN:
        report = reported({"e": text})
        for run in chance.sample(NAMES, 3):
            add_run(report, "e", run, some_inputs(chance), chance.choice([1, 3, 9, 200]), chance.choice(SORTS))
        yield report


class ReportTextTest(unittest.TestCase):
    def test_by_hand(self):
        report = reported({"two": main_of("ask a"), "one": LOOP})
        add_run(report, "one", "r", fuel=3)
        add_run(report, "one", "b", sort=by_few)
        add_run(report, "two", "x")
        add_run(report, "two", "y", [3])
        self.assertEqual(report_text(report), "\n".join([
            "edition one 5", "def main", "while < a 2", "set a a + 1", "end", "end",
            "run b ended", "at", "way 0.0.on 1", "way 1.0.no 1", "way 1.0.yes 2", "way 2.0.on 2",
            "run r spent", "at 2.0", "way 0.0.on 1", "way 1.0.yes 1", "through 1 1 1",
            "edition two 3", "def main", "ask a", "end",
            "run x dry", "at 1.0", "way 0.0.on 1", "through",
            "run y ended", "at", "way 0.0.on 1", "way 1.0.on 1", "through",
        ]))
        self.assertEqual(told(read_report(report_text(report))), told(report))

    def test_the_empty_report_and_editions_without_runs(self):
        self.assertEqual(report_text(Report()), "")
        self.assertEqual(read_report(""), Report())
        self.assertEqual(read_report("").editions(), [])
        report = reported({"b": "def main\nend", "a": "def main\nend"})
        self.assertEqual(report_text(report), "edition a 2\ndef main\nend\nedition b 2\ndef main\nend")
        self.assertEqual(read_report(report_text(report)), report)

    def test_what_is_written_is_read(self):
        for report in some_texts():
            before = copy.deepcopy(told(report))
            text = report_text(report)
            self.assertTrue(is_report(text))
            read = read_report(text)
            self.assertIs(type(read), Report)
            self.assertEqual(told(report), before)
            self.assertEqual(told(read), before)
            self.assertEqual(read, report)
            self.assertEqual(report_text(read), text)
            self.assertIs(read.busy(), False)

    def test_a_new_report_each_time_that_takes_further_runs(self):
        for report in some_texts():
            text = report_text(report)
            one, other = read_report(text), read_report(text)
            one.add_edition("more", Program(MIXED))
            for edition in one.editions():
                add_run(one, edition, "new", [1, 2])
            self.assertEqual(told(other), told(report))
            self.assertEqual(read_report(report_text(one)), one)
            self.assertEqual(join_reports(other, one), one)

    def test_marks_get_their_throughs_behind_a_text(self):
        report = reported({"e": LOOP})
        add_run(report, "e", "r", sort=by_few)
        read = read_report(report_text(report))
        self.assertIsNone(read.through("e", "r"))
        seen = add_run(read, "e", "r")
        self.assertEqual(read.through("e", "r"), seen.through())
        read = read_report(report_text(read))
        self.assertEqual(read.through("e", "r"), seen.through())

    def test_led_over(self):
        report = reported({"e": LOOP, "n": "def w\nend\n" + LOOP})
        add_run(report, "e", "r")
        led = lead_over(report, "e", "n")
        self.assertEqual(read_report(report_text(led)), led)
        self.assertEqual(lead_over(read_report(report_text(report)), "e", "n"), led)

    def test_numbers_of_sixty_figures_and_more(self):
        for number in (GREAT, 10 ** 60 - 1, 10 ** 60):
            for through in (None, [(1, 0, number), (1, 1, 1)]):
                # No run does so, but these counts keep the sums.
                report = reported({"e": LOOP})
                report.add("e", "r", ("marks", "ended", (), [((1, 0, "yes"), number)]))
                if through is not None:
                    report.add("e", "r", ("numbers", "ended", (), [(1, 0, 1), (1, 1, number)]))
                text = report_text(report)
                self.assertIn(f"way 2.0.on {number}\n" if through else f"way 2.0.on {number}", text)
                if number < 10 ** 60:
                    self.assertEqual(told(read_report(text)), told(report))
                else:
                    self.assertRaises(NoText, read_report, text)


class ReadReportTest(unittest.TestCase):
    def check(self, text):
        """Whether it is refused, as the patterns tell."""
        due = is_report(text)
        if due:
            self.assertEqual(report_text(read_report(text)), text)
        else:
            with self.assertRaises(RanError) as caught:
                read_report(text)
            self.assertIs(type(caught.exception), NoText)
        return not due

    def none(self, text):
        self.assertTrue(self.check(text), text)

    def test_texts_with_a_thing_otherwise(self):
        chance = random.Random(3)
        refused = []
        for report in some_texts():
            text = report_text(report)
            if text and len(text) < 2500:
                self.assertFalse(self.check(text))
                refused += [self.check(changed) for changed in chance.sample(changed_texts(chance, text, 120), 150)]
        self.assertGreater(refused.count(True), 1500)

    def text_of(self, *rows, program=LOOP, name="e"):
        return "\n".join([f"edition {name} {len(program.split(chr(10)))}", program, *rows])

    RUN = ["run r ended", "at", "way 0.0.on 1", "way 1.0.no 1", "way 1.0.yes 2", "way 2.0.on 2"]
    THROUGH = ["through 1 0 1", "through 1 1 2"]

    def test_names(self):
        for name in ["", "E", "abcdefghi", "a-b", "a b", "-", "e ", "\u00e9", "a.b", "A1"]:
            self.none(self.text_of(name=name))
            self.none(self.text_of(f"run {name} ended", *self.RUN[1:]))
        for name in ["a", "0", "abcdefgh", "12345678", "run", "edition", "at", "way", "end"]:
            self.assertFalse(self.check(self.text_of(name=name)))
            self.assertFalse(self.check(self.text_of(f"run {name} ended", *self.RUN[1:])))

    def test_names_not_in_order_or_twice(self):
        for one, other in [("b", "a"), ("a", "a"), ("1", "0"), ("a", "1"), ("ab", "a")]:
            self.none(self.text_of(name=one) + "\n" + self.text_of(name=other))
            self.none(self.text_of(name=one) + "\n" + self.text_of(name=other, program=CALLS))
            runs = [f"run {one} ended", *self.RUN[1:], f"run {other} ended", *self.RUN[1:]]
            self.none(self.text_of(*runs))
            self.assertEqual(self.check(self.text_of(*runs[6:], *runs[:6])), one == other)

    def test_rows_that_are_not_as_many_and_programs_that_are_none(self):
        for many in ["0", "1", "4", "6", "7", "60", "61", "05", "5.0", "-5", "", "five", str(GREAT), "5 5", "+5"]:
            for rows in ([], self.RUN):
                self.none("\n".join([f"edition e {many}", LOOP, *rows]))
        for program in ["def main", "def main\nend\nend", "x", "def main\nset d 1\nend", "def p\nend", "", "def main\n end", "def main\nend "]:
            self.none(self.text_of(program=program))
            self.none(self.text_of(program=program, *["run r ended", "at", "way 0.0.on 1"]))
        self.none("edition e 61\n" + main_of(*["tell a"] * 59))
        self.assertFalse(self.check("edition e 60\n" + main_of(*["tell a"] * 58)))

    def test_counts(self):
        for at, row in [(2, "way 0.0.on 2"), (4, "way 1.0.yes 3"), (5, "way 2.0.on 1"), (3, "way 1.0.no 2"), (4, "way 1.0.yes -2"),
                        (4, "way 1.0.yes 0"), (4, "way 1.0.yes 02"), (4, "way 3.0.on 2"), (4, "way 1.1.yes 2"), (4, "way 1.0.yes")]:
            rows = list(self.RUN)
            rows[at] = row
            self.none(self.text_of(*rows))
            self.none(self.text_of(*rows, *self.THROUGH))
        for at in range(2, 6):
            self.none(self.text_of(*self.RUN[:at], *self.RUN[at + 1:]))
            self.none(self.text_of(*self.RUN[:at], self.RUN[at], *self.RUN[at:]))
        self.none(self.text_of(*self.RUN, "way 9.0.on 1"))
        program = main_of("if = a 1", "tell a", "end")
        rows = ["run r ended", "at", "way 0.0.on 1", "way 1.0.no 1"]
        self.assertFalse(self.check(self.text_of(*rows, program=program)))
        self.none(self.text_of(*rows, "way 1.0.yes 0", program=program))
        self.none(self.text_of(*rows, "way 1.0.yes 0", "way 2.0.on 0", program=program))
        self.none(self.text_of(*rows[:3], "way 1.0.no 2", "way 1.0.yes -1", "way 2.0.on -1", program=program))

    def test_outcomes_and_ends(self):
        for head in ["run r spent", "run r dry", "run r stopped", "run r", "run r ended x", "run r Ended", "run", "run  r ended", "runs r ended"]:
            self.none(self.text_of(head, *self.RUN[1:]))
        for at in ["at 4.0", "at 1.0", "at 0.0", "at ", "at 5.0", "AT", "at x", "", "at 1.1"]:
            self.none(self.text_of(self.RUN[0], at, *self.RUN[2:]))
            self.none(self.text_of("run r spent", at, *self.RUN[2:]))
        self.none(self.text_of(self.RUN[0], *self.RUN[2:]))
        self.none(self.text_of(self.RUN[0]))
        self.none(self.text_of(*self.RUN[:1], *self.RUN[2:], "at"))
        self.none(self.text_of(*self.RUN[:2], "at", *self.RUN[2:]))
        program = "def p\nask a\nend\ndef main\ncall p\nstop\nend"
        for outcome, at, rows in [("dry", "4.0 1.0", ["0.0.on", "3.0.on"]), ("spent", "4.0 1.0", ["0.0.on", "3.0.on"]),
                                  ("stopped", "5.0", ["0.0.on", "1.0.on", "3.0.on", "4.0.on"]), ("spent", "4.0 0.0", ["3.0.on"]),
                                  ("spent", "4.0", ["3.0.on"]), ("spent", "3.0", [])]:
            for other in ("dry", "stopped", "spent", "ended"):
                due = other == outcome or (other in ("dry", "spent") and at == "4.0 1.0")
                text = self.text_of(f"run r {other}", f"at {at}", *[f"way {way} 1" for way in rows], program=program)
                self.assertEqual(self.check(text), not due)

    def test_throughs(self):
        self.assertFalse(self.check(self.text_of(*self.RUN)))
        self.assertFalse(self.check(self.text_of(*self.RUN, *self.THROUGH)))
        for rows in [["through"], ["through 1 0 1"], ["through 1 1 2"], ["through 1 0 1", "through 1 1 3"], ["through 1 0 2", "through 1 1 2"],
                     self.THROUGH[::-1], self.THROUGH + ["through"], ["through"] + self.THROUGH, self.THROUGH + self.THROUGH[1:],
                     self.THROUGH + ["through 1 2 1"], self.THROUGH + ["through 2 0 1"], ["through 0 0 1"] + self.THROUGH,
                     self.THROUGH + ["through 3 0 1"], self.THROUGH + ["through 9 0 1"], self.THROUGH + ["through 1 2 0"],
                     ["through 1 0 1", "through 1 1 1", "through 1 1 1"], ["through 1 0 -1", "through 1 1 2"], ["through "], ["through 1 0"],
                     self.THROUGH + ["through 2 0 0"], ["through 1.0 0 1", "through 1 1 2"], ["throughs"] + self.THROUGH]:
            self.none(self.text_of(*self.RUN, *rows))
            self.none(self.text_of(*self.RUN[:2], *rows, *self.RUN[2:]))
        self.none(self.text_of(*self.RUN[:3], *self.THROUGH, *self.RUN[3:]))
        # A run that asked no condition, told by numbers and by marks.
        for rows in ([], ["through"]):
            self.assertFalse(self.check(self.text_of("run r spent", "at 1.0", "way 0.0.on 1", *rows)))
        self.none(self.text_of("run r spent", "at 1.0", "way 0.0.on 1", "through", "through"))
        # Throughs of the same ways.
        rows = [f"through {row} {number} {many}" for row, number, many in ONE_WAY]
        report = reported({"e": CROSS})
        report.add("e", "r", ("numbers", "ended", (), ONE_WAY))
        text = report_text(report)
        self.assertIn("\n".join(rows), text)
        self.assertFalse(self.check(text))
        self.assertFalse(self.check(text.replace("through 1 3 1\nthrough 1 5 1", "through 1 2 1\nthrough 1 6 1")))
        self.none(text.replace("through 1 3 1", "through 1 2 1"))

    def test_rows_behind_the_end_and_ahead(self):
        text = self.text_of(*self.RUN, *self.THROUGH)
        for row in ["", "x", "end", "at", "way 2.0.on 2", "through", "edition", "edition f", "edition f 2", "run", "run s ended", "run s ended\nat",
                    "def main", "edition f 2\ndef main", "edition f 2\ndef main\nend\nend"]:
            self.none(text + "\n" + row)
            self.none(row + "\n" + text)
        self.assertFalse(self.check(text + "\nedition f 2\ndef main\nend"))
        self.none("\n".join(self.RUN))
        self.none(LOOP)

    def test_what_is_no_text(self):
        for thing in NO_TEXTS + [Report(), [], [""], NoText, self.text_of().split("\n")]:
            self.assertRaises(NoText, read_report, thing)
        for text in [" ", "\n", "-", "edition", "edition e", "edition e 0", "edition e 0\n", "x"]:
            self.none(text)


class BoundsTest(unittest.TestCase):
    def test_texts_of_ten_thousand_signs_and_more_at_once(self):
        chance = random.Random(4)
        report = Report()
        for at, text in enumerate(at_bounds()):
            report.add_edition(f"e{at}", Program(text))
            for number in range(8):
                add_run(report, f"e{at}", f"r{number}", some_inputs(chance), 400, SORTS[number % 3])
        text = report_text(report)
        self.assertGreater(len(text), 10000)
        started = time.monotonic()
        self.assertEqual(read_report(text), report)
        self.assertLess(time.monotonic() - started, 3)
        for wrong in (text[:-1] + "0", text + "\n", text[:10000], "x" * 10000, "\n" * 10000, " " * 10000, "at " * 3000, "edition e 9\n" * 800):
            started = time.monotonic()
            self.none(wrong)
            self.assertLess(time.monotonic() - started, 3)

    def none(self, text):
        self.assertRaises(NoText, read_report, text)
        self.assertRaises(NoText, read_record, text)

    def test_records_of_ten_thousand_signs_at_once(self):
        numbers = [((row, part, "yes"), GREAT - part) for row in range(60) for part in range(8)][:140]
        record = ("marks", "spent", tuple((row, 0) for row in range(60)), numbers)
        self.assertGreater(len(record_text(record)), 10000)
        started = time.monotonic()
        self.assertEqual(read_record(record_text(record)), record)
        self.assertLess(time.monotonic() - started, 1)

    def test_records_of_programs_at_the_bounds(self):
        for text in at_bounds():
            program = Program(text)
            seen = run_program(program, [1, 2, 3] * 60, fuel=5000)
            for record in (record_by_numbers(program, seen), record_by_marks(program, seen, best_marks(program))):
                self.assertEqual(read_record(record_text(record)), record)


if __name__ == "__main__":
    unittest.main()
