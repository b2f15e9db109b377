import itertools
import random
import time
import unittest

from tests.plain import Machine, points_in
from tests.some import LOOP, great_program, some_programs
from tests.test_editions import changed_text
from tests.test_marking import at_bounds
from tests.test_programs import main_of
from tests.test_reaching import bounded, wide_program
from tests.test_reports import CROSS, NAMES, NO_NAMES, told
from tests.test_sums import CALLS
from tests.test_texts import WRONG_NUMBERS
from tests.things import GREAT, NO_WHOLES
from whatran.choices import choice_words
from whatran.desk import Desk
from whatran.errors import Clash, NoEdition, NoName, NoNumber, NoRecord, NoRow, NoText, RanError
from whatran.fewruns import fewest_runs
from whatran.leading import lead_over, to_run
from whatran.marking import best_marks, hidden_change
from whatran.programs import Program
from whatran.reaching import inputs_to, reachable_points
from whatran.records import counts_of, record_by_marks, record_by_numbers
from whatran.reports import Report, join_reports
from whatran.runs import run_program
from whatran.texts import read_report, record_text, report_text
from whatran.totals import total_rows

CHOOSE = main_of("ask a", "if or and = a 1 = a 1 = a 2", "tell a", "else", "stop", "end", "while = a 2", "tell 3", "set a 3", "end")
ASKS = main_of("ask a", "tell a", "ask b", "tell b")


def flat(text):
    """A text as it stands in a row of the desk."""
    return text.replace("\n", "; ")


def desk_of(*rows):
    desk = Desk()
    for row in rows:
        desk.say(row)
    return desk


def all_said(desk, report):
    """What the desk answers to every row that asks."""
    rows = ["text"]
    for edition in report.editions():
        rows += [f"{word} {edition}" for word in ("marks", "met", "open", "never", "few", "total")]
        program = report.program(edition)
        for row, part in program.points():
            rows += [f"who {edition} {row}.{part}", f"reach {edition} {row}.{part}"]
        rows += [f"choices {edition} {row}" for row in range(len(program)) if program.word(row) in ("if", "while")]
    return {row: desk.say(row) for row in rows}


def dashed(words, sign=" "):
    return sign.join(words) or "-"


def word_of(point):
    return ".".join(str(number) for number in point)


def all_due(report):
    """The same, as the functions tell it."""
    due = {"text": flat(report_text(report)) or "-"}
    for edition in report.editions():
        program, met = report.program(edition), report.all_met(edition)
        due[f"marks {edition}"] = dashed([word_of(way) for way in best_marks(program)])
        due[f"met {edition}"] = dashed([f"{word_of(point)} {met[point]}" for point in sorted(met)], "; ")
        due[f"open {edition}"] = dashed([word_of(point) for point in program.points() if point not in met])
        reached = reachable_points(program)
        due[f"never {edition}"] = dashed([word_of(point) for point in program.points() if point not in reached])
        due[f"few {edition}"] = dashed(fewest_runs(report, edition)[0])
        due[f"total {edition}"] = "; ".join(" ".join(str(part) for part in row) for row in total_rows(report, edition))
        for point in program.points():
            due[f"who {edition} {word_of(point)}"] = dashed(report.who(edition, point))
            inputs = inputs_to(program, point)
            answer = "never" if inputs is None else dashed([str(number) for number in inputs], "")
            due[f"reach {edition} {word_of(point)}"] = answer
        for row in range(len(program)):
            if program.word(row) in ("if", "while"):
                due[f"choices {edition} {row}"] = " ".join(choice_words(report, edition, row))
    return due


class RowsTest(unittest.TestCase):
    def says(self, desk, row, due):
        answer = desk.say(row)
        self.assertIs(type(answer), str)
        self.assertEqual(answer, due, row)

    def test_each_row_with_its_answers(self):
        desk = Desk()
        self.says(desk, "text", "-")
        self.says(desk, f"edition one {flat(LOOP)}", "ok")
        self.assertIn(desk.say("marks one"), ("1.0.yes", "2.0.on"))
        for row, due in [("met one", "-"), ("who one 0.0", "-"), ("open one", "0.0 1.0 2.0 4.0"), ("never one", "-"), ("few one", "-"),
                         ("total one", "main 0 4 0 4; all 0 4 0 4"), ("choices one 1", "open"), ("reach one 4.0", "-"),
                         ("text", f"edition one 5; {flat(LOOP)}")]:
            self.says(desk, row, due)
        self.says(desk, "run one r 3 -", "spent -")
        for row, due in [("met one", "0.0 1; 1.0 1; 2.0 1"), ("who one 2.0", "r"), ("open one", "4.0"), ("few one", "r"),
                         ("total one", "main 3 4 2 4; all 3 4 2 4"), ("choices one 1", "open"),
                         ("text", f"edition one 5; {flat(LOOP)}; run r spent; at 2.0; way 0.0.on 1; way 1.0.yes 1")]:
            self.says(desk, row, due)
        self.says(desk, "look one q 500 0123", "ended -")
        for row, due in [("met one", "0.0 2; 1.0 4; 2.0 3; 4.0 1"), ("who one 2.0", "q r"), ("who one 4.0", "q"), ("open one", "-"),
                         ("few one", "q"), ("choices one 1", "shown"), ("total one", "main 4 4 4 4; all 4 4 4 4")]:
            self.says(desk, row, due)

    def test_what_runs_tell_and_how_they_end(self):
        for word in ("run", "look"):
            desk = desk_of(f"edition e {flat(ASKS)}", f"edition s {flat(main_of('tell 3', 'stop'))}")
            for run, row, due in [("a", "500 31", "ended 31"), ("b", "500 3", "dry 3"), ("c", "500 -", "dry -"), ("d", "2 0", "spent -"),
                                  ("e", "3 01", "spent 0"), ("f", "500 0123", "ended 01"), ("g", "1 1", "spent -"), ("h", "5000 22", "ended 22")]:
                self.says(desk, f"{word} e {run} {row}", due)
            self.says(desk, f"{word} s x 500 -", "stopped 3")
            self.says(desk, "who e 2.0", "a b e f h")
            self.says(desk, "who e 3.0", "a b f h")
            self.says(desk, "who e 4.0", "a f h")

    def test_marks_are_the_same_each_time_and_enough(self):
        for text in (LOOP, CALLS, CROSS, CHOOSE, great_program()):
            desk = desk_of(f"edition e {flat(text)}")
            answer = desk.say("marks e")
            self.assertEqual(desk.say("marks e"), answer)
            desk.say("run e r 50 123")
            self.assertEqual(desk.say("marks e"), answer)
            self.assertEqual(desk_of(f"edition x {flat(text)}").say("marks x"), answer)
            program = Program(text)
            marks = [way for way in program.ways() if word_of(way) in answer.split(" ")]
            self.assertEqual(dashed([word_of(way) for way in marks]), answer)
            self.assertIsNone(hidden_change(program, marks))
        self.says(desk_of("edition e def main; end"), "marks e", "-")

    def test_run_keeps_what_marks_tell_and_look_what_numbers_tell(self):
        desk = desk_of(f"edition e {flat(LOOP)}")
        self.says(desk, "run e r 500 -", "ended -")
        text = f"edition e 5; {flat(LOOP)}; run r ended; at; way 0.0.on 1; way 1.0.no 1; way 1.0.yes 2; way 2.0.on 2"
        self.says(desk, "text", text)
        self.says(desk, "run e r 500 -", "ended -")
        self.says(desk, "text", text)
        self.says(desk, "look e r 500 -", "ended -")
        self.says(desk, "text", text + "; through 1 0 1; through 1 1 2")
        self.says(desk, "who e 0.0", "r")
        self.says(desk, "run e r 500 -", "ended -")
        self.says(desk, "text", text + "; through 1 0 1; through 1 1 2")

    def test_took_of_a_record_of_another_desk(self):
        program = Program(CHOOSE)
        for sort in (lambda seen: record_by_marks(program, seen, best_marks(program)), lambda seen: record_by_numbers(program, seen),
                     lambda seen: record_by_marks(program, seen, program.ways())):
            for inputs in ([], [1], [2], [0]):
                here, there = desk_of(f"edition e {flat(CHOOSE)}"), desk_of(f"edition e {flat(CHOOSE)}")
                seen = run_program(program, inputs)
                word = "look" if sort(seen)[0] == "numbers" else "run"
                there.say(f"{word} e r 500 {dashed([str(number) for number in inputs], '')}")
                self.says(here, f"took e r {flat(record_text(sort(seen)))}", "ok")
                self.assertEqual(here.say("text"), there.say("text"))
                self.says(here, f"took e r {flat(record_text(sort(seen)))}", "ok")
                self.assertEqual(here.say("text"), there.say("text"))

    def test_lead(self):
        other = CHOOSE.replace("tell 3", "tell b")
        desk = desk_of(f"edition e {flat(CHOOSE)}", f"edition f {flat(other)}", "look e z 500 2", "run e b 500 1", "look e a 500 2", "look e c 9 -")
        self.says(desk, "lead e f", "a z")
        self.says(desk, "who f 0.0", "b c")
        self.says(desk, "who e 0.0", "a b c z")
        self.says(desk, "lead e f", "a z")
        self.says(desk, "lead f e", "-")
        self.says(desk, "lead e e", "-")
        self.says(desk, "choices f 2", "open never open")
        empty = desk_of(f"edition e {flat(CHOOSE)}", f"edition f {flat(other)}")
        self.says(empty, "lead e f", "-")

    def test_open_never_and_reach(self):
        text = "def p\ntell a\nend\n" + main_of("ask b", "if and = a 1 = b 1", "tell a", "else", "ask c", "if = c 3", "stop", "tell 1", "end", "end")
        desk = desk_of(f"edition e {flat(text)}")
        self.says(desk, "never e", "0.0 1.0 2.0 5.1 6.0 11.0")
        self.says(desk, "open e", dashed([word_of(point) for point in points_in(text)]))
        for word, due in [("0.0", "never"), ("2.0", "never"), ("5.1", "never"), ("11.0", "never"), ("3.0", "-"), ("4.0", "-"), ("10.0", "03")]:
            self.says(desk, f"reach e {word}", due)
        self.assertEqual(len(desk.say("reach e 5.0")), 1)
        desk.say("look e r 500 13")
        self.says(desk, "open e", "0.0 1.0 2.0 5.1 6.0 11.0 14.0")
        self.says(desk, "never e", "0.0 1.0 2.0 5.1 6.0 11.0")

    def test_points_in_ascending_order(self):
        text = main_of("ask a", *["tell a"] * 12, "if or = a 1 = a 2", "end")
        desk = desk_of(f"edition e {flat(text)}")
        self.says(desk, "open e", " ".join(f"{row}.0" for row in range(15)) + " 14.1 16.0")
        desk.say("run e r 500 2")
        self.says(desk, "met e", "; ".join(f"{row}.0 1" for row in range(15)) + "; 14.1 1; 16.0 1")
        self.says(desk_of(f"edition e {flat('def p' + chr(10) + 'end' + chr(10) + 'def q' + chr(10) + 'end' + chr(10) + text)}"), "never e",
                  "0.0 1.0 2.0 3.0")

    def test_few_and_total(self):
        desk = desk_of(f"edition e {flat('def p' + chr(10) + 'end' + chr(10) + CHOOSE)}", "run e b 500 2", "run e a 500 0", "look e c 500 1", "look e d 5 2")
        self.says(desk, "few e", "a b c")
        self.assertEqual(desk.say("total e").split("; ")[0], "p 0 2 0 1")
        self.assertEqual([row.split(" ")[0] for row in desk.say("total e").split("; ")], ["p", "main", "all"])

    def test_text_and_join(self):
        first = desk_of(f"edition e {flat(CHOOSE)}", f"edition f {flat(LOOP)}", "run e b 500 2", "look e a 500 0", "look f r 500 -", "run f s 2 -")
        second = Desk()
        self.says(second, f"join {first.say('text')}", "ok")
        report = read_report(first.say("text").replace("; ", "\n"))
        self.assertEqual(all_said(second, report), all_said(first, report))
        for text in (first.say("text"), "-", second.say("text")):
            self.says(second, f"join {text}", "ok")
            self.assertEqual(all_said(second, report), all_said(first, report))
        self.says(Desk(), "join -", "ok")
        desk = Desk()
        desk.say("join -")
        self.says(desk, "text", "-")

    def test_joined_in_any_order_and_however_often(self):
        parts = [desk_of(f"edition e {flat(CHOOSE)}", "run e b 500 2"), desk_of(f"edition e {flat(CHOOSE)}", "look e b 500 2", "run e c 3 1"),
                 desk_of(f"edition f {flat(LOOP)}", "look f b 500 2"), Desk()]
        texts = [part.say("text") for part in parts]
        answers = set()
        for order in itertools.permutations(texts):
            desk = Desk()
            for text in order + order[:2]:
                desk.say(f"join {text}")
            answers.add(desk.say("text"))
        self.assertEqual(len(answers), 1)

    def test_edition_again_is_nothing_new(self):
        desk = desk_of(f"edition e {flat(LOOP)}", "run e r 500 -")
        before = desk.say("text")
        self.says(desk, f"edition e {flat(LOOP)}", "ok")
        self.says(desk, f"edition f {flat(LOOP)}", "ok")
        self.assertEqual(desk.say("text"), before + f"; edition f 5; {flat(LOOP)}")

    def test_two_desks_know_nothing_of_each_other(self):
        one, other = desk_of(f"edition e {flat(LOOP)}"), Desk()
        self.says(other, "text", "-")
        other.say(f"join {one.say('text')}")
        other.say("run e r 500 -")
        self.says(one, "met e", "-")


class AsByFunctionsTest(unittest.TestCase):
    def test_desks_and_functions_tell_the_same(self):
        chance = random.Random(1)
        for text in bounded([CHOOSE, CALLS, LOOP, CROSS] + some_programs(601, 14, 24, 4)):
            desk, report = Desk(), Report()
            texts = {"e": text, "f": changed_text(chance, text, 1), "0": changed_text(chance, text, 2)}
            for name in chance.sample(sorted(texts), 3):
                self.assertEqual(desk.say(f"edition {name} {flat(texts[name])}"), "ok")
                report.add_edition(name, Program(texts[name]))
            for _ in range(8):
                report = self.some_row(chance, desk, report, texts)
            if bounded(texts.values()) == list(texts.values()):
                self.assertEqual(all_said(desk, report), all_due(report))
            self.assertEqual(desk.say("text"), flat(report_text(report)))

    def some_row(self, chance, desk, report, texts):
        """Says a row that does something, does the same by the functions, and tells the report behind it."""
        name, run = chance.choice(sorted(texts)), chance.choice(["a", "b", "zz", "9", "q"])
        program = report.program(name)
        word = chance.choice(["run", "look", "took", "lead", "join", "run", "look"])
        inputs = [chance.randint(0, 3) for _ in range(chance.choice([0, 0, 1, 3, 7]))]
        fuel = chance.choice([1, 3, 8, 40, 300])
        seen = run_program(program, inputs, fuel=fuel)
        figures = dashed([str(number) for number in inputs], "")
        due = f"{seen.outcome()} {dashed([str(number) for number in seen.told()], '')}"
        if word == "run":
            row = f"run {name} {run} {fuel} {figures}"
            return self.both(desk, row, due, report, lambda: report.add(name, run, record_by_marks(program, seen, best_marks(program))))
        if word == "look":
            row = f"look {name} {run} {fuel} {figures}"
            return self.both(desk, row, due, report, lambda: report.add(name, run, record_by_numbers(program, seen)))
        if word == "took":
            record = chance.choice([record_by_numbers(program, seen), record_by_marks(program, seen, program.ways())])
            row = f"took {name} {run} {flat(record_text(record))}"
            return self.both(desk, row, "ok", report, lambda: report.add(name, run, record))
        if word == "lead":
            other = chance.choice(sorted(texts))
            due = dashed([run for run, _ in to_run(report, name, other)])
            return self.both(desk, f"lead {name} {other}", due, report, lambda: lead_over(report, name, other))
        own = Report()
        own.add_edition(name, program)
        own.add(name, run, record_by_numbers(program, seen))
        return self.both(desk, f"join {flat(report_text(own))}", "ok", report, lambda: join_reports(report, own))

    def both(self, desk, row, due, report, deed):
        before = told(report)
        try:
            behind = deed() or report
        except RanError as refusal:
            with self.assertRaises(type(refusal)) as caught:
                desk.say(row)
            self.assertEqual(vars(caught.exception), vars(refusal))
            self.assertEqual(told(report), before)
            return report
        self.assertEqual(desk.say(row), due)
        return behind


# For each row the words that it has, as kinds.
FORMS = {
    "edition": ("new", "program"), "marks": ("edition",), "run": ("edition", "run", "fuel", "inputs"),
    "look": ("edition", "run", "fuel", "inputs"), "took": ("edition", "run", "record"), "lead": ("edition", "edition"),
    "met": ("edition",), "who": ("edition", "point"), "open": ("edition",), "never": ("edition",), "reach": ("edition", "point"),
    "few": ("edition",), "total": ("edition",), "choices": ("edition", "row"), "text": (), "join": ("report",),
}
ENDED = "marks ended; at; way 1.0.yes 2"
RIGHT = {"new": "e", "edition": "e", "run": "r", "fuel": "500", "inputs": "-", "point": "1.0", "row": "1", "program": flat(LOOP), "record": ENDED,
         "report": "-"}
# Names may hold no blank here: that would make two words of one.
WORDS_NO_NAMES = [name for name in NO_NAMES if isinstance(name, str) and " " not in name and "\n" not in name]
# For each kind some words that are none, with the refusal.
WRONG = {
    "new": [(NoName, name) for name in WORDS_NO_NAMES],
    "run": [(NoName, name) for name in WORDS_NO_NAMES],
    "edition": [(NoName, name) for name in WORDS_NO_NAMES] + [(NoEdition, name) for name in ("none", "0", "ee", "r")],
    "fuel": [(NoText, word) for word in WRONG_NUMBERS + ["-", "five", "0" * 61] if " " not in word],
    "inputs": [(NoText, word) for word in ["", "4", "01234", "0-", "--", "+", "0,1", "a", "1.0", "-1", "1_0", "\u0661", "0\t", "\u00b2"]],
    "point": [(NoText, word) for word in ["", "-", "1", "1.", ".0", "1.1", "3.0", "5.0", "01.0", "1.00", "1.0.on", "1,0", "a.b", "-1.0", "1.-0", "+1.0",
                                          "60.0", f"{GREAT}.0", "1.0.0", "1.0;", "\u0661.0", "1" + "0" * 60 + ".0"]],
    "row": [(NoText, word) for word in ["", "-", "0", "2", "3", "4", "5", "60", "01", "1.0", "+1", "-1", "one", str(GREAT), "\u0661", "1" * 61]],
    "program": [(NoText, text) for text in ["", "-", "x", "def main", "def main;end", "def main;  end", "def main; end;", "def main; end; ", "main", "ok",
                                            "; ".join(["def main"] + ["tell a"] * 59 + ["end"]), "def main; set d 1; end", "def main; end "]],
    "record": [(NoText, text) for text in ["", "-", "x", "marks", "marks ended", "marks ended;at", "marks ended; at ", "marks ended;  at",
                                           "marks ended; at; way 1.0.yes 02", "marks ended; at; way 1.0.yes -1", "marks ended; at 1.0",
                                           "marks dry; at", "numbers ended; at; through", "numbers ended; at; through 1 0 0", "marks ended; at; "]],
    "report": [(NoText, text) for text in ["x", "--", "- ", "edition", "edition e 0", "edition e 5; def main; end", "edition E 2; def main; end",
                                           "edition e 2; def main; end; ", f"edition e 5; {flat(LOOP)}; run r ended; at", "", "; ",
                                           "edition f 2; def main; end; edition e 2; def main; end"]],
}


class NoRowTest(unittest.TestCase):
    def setUp(self):
        self.desk = desk_of(f"edition e {flat(LOOP)}", f"edition two {flat(CALLS)}", "run e q 500 -", "look two r 90 123")
        self.report = read_report(self.desk.say("text").replace("; ", "\n"))
        self.before = all_said(self.desk, self.report)

    def tearDown(self):
        self.assertEqual(all_said(self.desk, self.report), self.before)

    def refused(self, error, row, name=None):
        with self.assertRaises(RanError, msg=row) as caught:
            self.desk.say(row)
        self.assertIs(type(caught.exception), error, row)
        if name is not None:
            self.assertEqual(caught.exception.name, name)

    def test_what_is_no_text(self):
        for thing in [thing for thing in NO_WHOLES if not isinstance(thing, str)] + [0, ["met", "e"], ("met", "e"), b"met e", self.desk, Desk, {}]:
            self.assertRaises(NoRow, self.desk.say, thing)

    def test_unknown_words(self):
        for word in ["", " ", "x", "Met", "MET", "mets", "ok", "-", "edit", "say", "e", "through", "at", "way", "met;", "\tmet", "open_", "1"]:
            for rest in ("", " e", " e 1.0", " e r 500 -"):
                self.refused(NoRow, word + rest)

    def test_words_too_few_or_too_many(self):
        for word, kinds in FORMS.items():
            words = [word] + [RIGHT[kind] for kind in kinds]
            texts = bool(kinds) and kinds[-1] in ("program", "record", "report")
            for many in range(1, len(words)):
                self.refused(NoRow, " ".join(words[:many]))
            if not texts:
                for more in ("x", "", "e", "-", "1 2", " "):
                    self.refused(NoRow, " ".join(words + [more]))
                    self.refused(NoRow, " ".join(["", *words]))
                    # The number of the words comes ahead of what they are.
                    self.refused(NoRow, " ".join([word] + ["E"] * len(kinds) + [more]))

    def test_blanks_where_no_text_stands(self):
        for word, kinds in FORMS.items():
            words = [word] + [RIGHT[kind] for kind in kinds]
            row = " ".join(words)
            self.refused(NoRow, " " + row)
            if kinds and kinds[-1] in ("program", "record", "report"):
                continue
            self.refused(NoRow, row + " ")
            for at in range(1, len(words)):
                self.refused(NoRow, " ".join(words[:at] + [""] + words[at:]))

    def test_line_feeds(self):
        for word, kinds in FORMS.items():
            row = " ".join([word] + [RIGHT[kind] for kind in kinds])
            for wrong in (row + "\n", "\n" + row, row.replace(" ", "\n", 1) + "\n", row.replace("; ", "\n") + "\n", "\n", row + "\nx"):
                self.refused(NoRow, wrong)

    def test_each_word_that_is_none(self):
        for word, kinds in FORMS.items():
            for at, kind in enumerate(kinds):
                for error, wrong in WRONG[kind]:
                    words = [RIGHT[one] for one in kinds]
                    words[at] = wrong
                    self.refused(error, " ".join([word, *words]), wrong if error is NoEdition else None)

    def test_two_words_that_are_none_the_left_one_first(self):
        for word, kinds in FORMS.items():
            for one, other in itertools.combinations(range(len(kinds)), 2):
                for error, wrong in WRONG[kinds[one]]:
                    for _, second in WRONG[kinds[other]][::3]:
                        words = [RIGHT[kind] for kind in kinds]
                        words[one], words[other] = wrong, second
                        self.refused(error, " ".join([word, *words]), wrong if error is NoEdition else None)

    def test_all_words_that_are_none(self):
        for word, kinds in FORMS.items():
            if kinds:
                for error, wrong in WRONG[kinds[0]]:
                    self.refused(error, " ".join([word, wrong, *[WRONG[kind][0][1] or "x" for kind in kinds[1:]]]))

    def test_an_empty_word_is_a_word(self):
        self.refused(NoName, "met ")
        self.refused(NoName, "lead  e")
        self.refused(NoName, "lead e ")
        self.refused(NoText, "who e ")
        self.refused(NoName, "run  r 500 -")
        self.refused(NoName, "run e  500 -")
        self.refused(NoText, "run e r  -")
        self.refused(NoText, "run e r 500 ")
        self.refused(NoText, "edition new ")
        self.refused(NoText, "took e r ")
        self.refused(NoText, "join ")
        self.refused(NoName, "edition  def main; end")

    def test_of_the_edition_that_is_named(self):
        self.refused(NoText, "who e 13.0")
        self.refused(NoText, "reach e 13.0")
        self.refused(NoText, "choices two 2")
        self.assertEqual([self.desk.say(f"who two {row}.0") for row in (13, 14)], ["-", "r"])
        self.refused(NoText, "who two 3.0")

    def test_the_deed_refuses_behind_the_words(self):
        for word in ("run", "look"):
            for fuel in ("0", "5001", str(GREAT)):
                self.refused(NoNumber, f"{word} e new {fuel} -")
                self.refused(NoNumber, f"{word} e q {fuel} 12")
                self.refused(NoText, f"{word} e new {fuel} 4")
                self.refused(NoName, f"{word} e New {fuel} 4")
            self.refused(Clash, f"{word} e q 2 -", "q")
            self.refused(Clash, f"{word} two r 90 0", "r")
        self.refused(Clash, f"edition e {flat(CALLS)}", "e")
        self.refused(Clash, "edition two def main; end", "two")
        self.refused(Clash, f"took e q {ENDED.replace('2', '3')}", "q")
        for text in ["marks ended; at; way 3.0.yes 2", "marks ended; at", "marks ended; at; way 0.0.on 1", "marks ended; at; way 1.0.yes 1; way 2.0.on 2",
                     "marks dry; at 1.0; way 1.0.yes 1", "marks spent; at 9.0; way 1.0.yes 1", "numbers ended; at; through 1 2 1",
                     "numbers ended; at; through 2 0 1", "numbers ended; at; through 1 1 3"]:
            self.refused(NoRecord, f"took e q {text}")
            self.refused(NoRecord, f"took e new {text}")
        self.refused(Clash, f"join edition e 2; def main; end", "e")
        rows = flat(LOOP) + "; run q spent; at 1.0; way 0.0.on 1"
        self.refused(Clash, f"join edition e 5; {rows}", "q")
        self.refused(Clash, f"join edition a 2; def main; end; edition e 5; {rows}", "q")

    def test_lead_that_clashes(self):
        desk = desk_of(f"edition a {flat(LOOP)}", f"edition b {flat(LOOP)}", "run a r 500 -", "run a q 500 -", "run a p 500 -",
                       "run b r 2 -", "run b q 2 -")
        before = desk.say("text")
        with self.assertRaises(Clash) as caught:
            desk.say("lead a b")
        self.assertEqual((caught.exception.name, desk.say("text")), ("q", before))


class BoundsTest(unittest.TestCase):
    def test_rows_of_ten_thousand_signs_and_programs_at_the_bounds_at_once(self):
        chance = random.Random(2)
        desk = Desk()
        started = time.monotonic()
        for at, text in enumerate(at_bounds()):
            self.assertEqual(desk.say(f"edition e{at} {flat(text)}"), "ok")
            for number in range(8):
                inputs = "".join(str(chance.randint(0, 3)) for _ in range(200))
                answer = desk.say(f"{('run', 'look')[number % 2]} e{at} r{number} {40 * number + 1} {inputs}")
                due = Machine(text, [int(sign) for sign in inputs], 40 * number + 1)
                self.assertEqual(answer, f"{due.outcome} {dashed([str(one) for one in due.told], '')}")
            for word in ("marks", "met", "open", "few", "total"):
                desk.say(f"{word} e{at}")
        text = desk.say("text")
        self.assertGreater(len(text), 10000)
        other = desk_of(f"join {text}")
        self.assertEqual(other.say("text"), text)
        self.assertLess(time.monotonic() - started, 20)
        for wrong in ("x" * 10000, " " * 10000, "join " + "x" * 10000, "join" + " " * 10000, "edition e " + "; " * 5000, "took e0 r " + "1" * 10000):
            started = time.monotonic()
            self.assertRaises((NoRow, NoText), desk.say, wrong)
            self.assertLess(time.monotonic() - started, 2)

    def test_never_and_reach_of_eight_hundred_stands_at_once(self):
        text = wide_program()
        desk = desk_of(f"edition e {flat(text)}")
        started = time.monotonic()
        program = Program(text)
        never = [word_of(point) for point in program.points() if point not in reachable_points(program)]
        self.assertEqual(desk.say("never e"), dashed(never))
        for point in program.points():
            self.assertEqual(desk.say(f"reach e {word_of(point)}") == "never", word_of(point) in never)
        self.assertLess(time.monotonic() - started, 5)

    def test_numbers_of_sixty_figures(self):
        desk = desk_of(f"edition e {flat(LOOP)}", f"took e r marks ended; at; way 1.0.yes {GREAT}")
        self.assertEqual(desk.say("met e"), f"0.0 1; 1.0 {GREAT + 1}; 2.0 {GREAT}; 4.0 1")
        self.assertEqual(desk_of(f"join {desk.say('text')}").say("met e"), desk.say("met e"))
        desk.say(f"took e s marks ended; at; way 1.0.yes {10 ** 60 - 1}")
        self.assertEqual(desk.say("who e 2.0"), "r s")
        with self.assertRaises(NoText):
            desk.say(f"took e t marks ended; at; way 1.0.yes {10 ** 60}")
        report = read_report(desk.say("text").replace("; ", "\n"))
        self.assertEqual(report.counts("e", "s"), counts_of(Program(LOOP), ("marks", "ended", (), [((1, 0, "yes"), 10 ** 60 - 1)])))

    def test_names_that_are_some(self):
        desk = Desk()
        for name in NAMES + ["edition", "text", "join", "ok", "never"]:
            self.assertEqual(desk.say(f"edition {name} def main; end"), "ok")
            for run in NAMES:
                self.assertEqual(desk.say(f"run {name} {run} 5 -"), "ended -")
            self.assertEqual(desk.say(f"who {name} 0.0"), " ".join(sorted(NAMES)))


if __name__ == "__main__":
    unittest.main()
